"""Point 1: begin, and what is refused where there are no rules."""

import unittest

from calls import (
    LARGEST, answered, back, begin, count, games, need, point, points, right, score, serving, standing, told,
)


class Edges(unittest.TestCase):

    def test_sets(self):
        for sets, answer in ((0, -22), (1, 0), (2, 0), (3, 0), (4, -22), (LARGEST, -22)):
            self.assertEqual(answered(begin(sets=sets)), [answer], sets)

    def test_games(self):
        wanted = [(0, -22), (1, -22)] + [(games, 0) for games in range(2, 9)] + [(9, -22), (LARGEST, -22)]
        for games_each, answer in wanted:
            self.assertEqual(answered(begin(games=games_each)), [answer], games_each)

    def test_both_out_of_range(self):
        self.assertEqual(answered(begin(sets=0, games=0)), [-22])
        self.assertEqual(answered(begin(sets=LARGEST, games=LARGEST, long=LARGEST, short=LARGEST)), [-22])

    def test_sets_are_what_wins_the_match(self):
        for sets in (1, 2, 3):
            calls = games("00" * sets)
            self.assertEqual(answered(begin(sets=sets, games=2), calls), [0] * len(calls) + [1])

    def test_games_are_what_wins_a_set(self):
        for each in range(2, 9):
            calls = games("0" * each)
            self.assertEqual(answered(begin(sets=1, games=each), calls), [0] * len(calls) + [1])

    def test_long_is_0_or_anything_else(self):
        # Seven points from 2 games each end a match with a tie break only.
        ends = [answered(begin(1, 2, long, 0), told([], (2, 2, 0, 0)), points("0" * 8))[-2:]
                for long in (0, 1, 2, 60, LARGEST)]
        self.assertEqual(ends, [[1, -17]] + [[0, 1]] * 4)

    def test_short_is_0_or_anything_else(self):
        ends = [answered(begin(1, 2, 0, short), told([], (1, 0, 3, 3)), point(0), point(0))[-2:]
                for short in (0, 1, 2, 60, LARGEST)]
        self.assertEqual(ends, [[0, 1]] + [[1, -17]] * 4)


class InTheMiddle(unittest.TestCase):

    def test_all_begins_anew(self):
        before = [begin(3, 6), told([(6, 4, 0)], (3, 2, 1, 1))] + points("0110")
        self.assertEqual(answered(before, begin(1, 2, 1, 1), back(), right(0))[-3:], [0, -2, -2])
        self.assertEqual(standing(before, begin(1, 2, 1, 1)), standing(begin(1, 2, 1, 1)))

    def test_behind_the_end_of_the_match(self):
        calls = [begin(1, 2), told([(2, 0, 0)]), point(0), begin(1, 2), point(0)]
        self.assertEqual(answered(calls), [0, 0, -17, 0, 0])

    def test_refused_leaves_rules_score_and_points(self):
        before = [begin(2, 3, 1, 1), told([(3, 1, 0)], (1, 2, 0, 3))] + points("001")
        for wrong in (begin(0, 6), begin(4, 6), begin(2, 1), begin(2, 9)):
            self.assertEqual(standing(before, wrong), standing(before))
            self.assertEqual(answered(before, wrong, back())[-2:], [-22, 2])

    def test_refused_at_first_leaves_no_rules(self):
        self.assertEqual(answered(begin(4, 6), point(0)), [-22, -61])


class NoRules(unittest.TestCase):

    def test_told_and_point(self):
        self.assertEqual(answered(told([])), [-61])
        self.assertEqual(answered(point(0), point(1)), [-61, -61])

    def test_score_next_need_and_count(self):
        questions = [score(), serving(), need(0), need(1), count()]
        self.assertEqual(answered(questions), [-61] * 5)
        self.assertEqual(answered(back(), right(0), begin(0, 6), begin(3, 9), questions)[4:], [-61] * 5)
        given = answered(begin(1, 2), questions, begin(0, 6), questions)
        self.assertEqual(given[1:6], [(7, *b"0-0 0-0"), 0, 8, 8, (0, 0, 0, 0)])
        self.assertEqual(given[7:], given[1:6])

    def test_ahead_of_other_refusals(self):
        self.assertEqual(answered(point(2), point(LARGEST)), [-61, -61])
        self.assertEqual(answered(need(2), need(LARGEST)), [-61, -61])
        self.assertEqual(answered(told([(1, 1, 1)]), told([(61, 0, 0)]), told([(6, 0, 0)] * 6)), [-61] * 3)

    def test_back_and_right(self):
        self.assertEqual(answered(back(), right(0), right(LARGEST)), [-2, -2, -2])

    def test_begin_still_works(self):
        self.assertEqual(answered(point(0), back(), begin(), point(0), back()), [-61, -2, 0, 0, 0])


if __name__ == "__main__":
    unittest.main()
