"""Point 5: next, who serves the next point and whether ends have been changed."""

import random
import unittest

from calls import answered, back, begin, difference, games, point, points, right, score, serving, told
from plain_desk import START, is_over, is_tie_break, step
from pointdesk.desk import answers


def next_behind(*calls):
    return answered(*calls, serving())[-1]


def next_at_each(*calls, text):
    """What next answers ahead of the points of the text, and behind each of them."""
    asked = [call for one in points(text) for call in (one, serving())]
    return answered(*calls, serving(), asked)[-len(asked) - 1::2]


class Refusals(unittest.TestCase):

    def test_no_rules(self):
        self.assertEqual(answers([6]), [1, -61])
        self.assertEqual(answered(serving(), begin(1, 9), serving(), begin(), serving()), [-61, -22, -61, 0, 0])

    def test_the_match_is_over(self):
        calls = [begin(1, 2)] + points("0" * 8)
        self.assertEqual(answered(calls, serving(), back(), serving())[-3:], [-17, 7, 3])
        self.assertEqual(next_behind(begin(2, 6), told([(6, 0, 0), (7, 6, 3)])), -17)
        self.assertEqual(next_behind(begin(2, 2), told([], (2, 2, 6, 0)), point(0)), 1)

    def test_changes_nothing(self):
        calls = [begin(1, 2)] + points("0" * 7)
        self.assertEqual(answered(calls, serving(), back())[-1], 6)
        self.assertEqual(answered(calls, serving(), point(0), serving(), back(), score())[-3:],
                         answered(calls, point(0), serving(), back(), score())[-3:])


class Games(unittest.TestCase):

    def test_within_a_game_nothing_is_changed(self):
        self.assertEqual(next_at_each(begin(), text="010101 0101 0"), [0] * 12)
        self.assertEqual(next_at_each(begin(), told([], (1, 0, 0, 0)), text="000111 0101 0"), [3] * 12)

    def test_behind_each_game(self):
        given = [next_behind(begin(2, 8), games("01010101010101"[:played])) for played in range(15)]
        # The servers take turns; ends are changed behind the first game, the third ..
        self.assertEqual(given, [0, 3, 2, 1, 0, 3, 2, 1, 0, 3, 2, 1, 0, 3, 2])

    def test_who_wins_a_game_does_not_matter(self):
        for won in ("000", "001", "010", "011", "100", "101", "110", "111"):
            self.assertEqual(next_behind(begin(2, 8), games(won)), 1)

    def test_deciding_set_that_goes_on(self):
        before = [begin(1, 6, 1)]
        given = [next_behind(before, games("01" * 8), games("0"[:more])) for more in (0, 1)]
        self.assertEqual(given, [0, 3])
        told_scores = [(6, 6), (7, 6), (7, 7), (7, 8), (8, 8), (60, 59), (60, 60)]
        given = [next_behind(before, told([], pair + (0, 0))) for pair in told_scores]
        self.assertEqual(given, [0, 3, 2, 1, 0, 1, 0])
        # At 6 games each it has no tie break: serving and ends stay through the game.
        self.assertEqual(next_at_each(before, told([], (6, 6, 0, 0)), text="0011 0101010"), [0] * 12)


class SetsEnds(unittest.TestCase):

    ENDS = (((6, 0, 0), 2), ((6, 1, 0), 1), ((6, 2, 0), 0), ((6, 3, 0), 3), ((6, 4, 0), 2), ((7, 5, 0), 0))

    def test_told(self):
        for one, answer in self.ENDS:
            self.assertEqual(next_behind(begin(2, 6), told([one])), answer, one)
            turned = (one[1], one[0], one[2])
            self.assertEqual(next_behind(begin(2, 6), told([turned])), answer, turned)

    def test_played(self):
        for one, answer in self.ENDS:
            # The loser's games come first, but for 7-5, which goes by 5 each.
            text = "01" * min(one[1], 5) + "0" * (one[0] - one[1])
            self.assertEqual(next_behind(begin(2, 6), games(text)), answer, one)

    def test_games_of_a_set_are_counted_from_its_beginning(self):
        even = [begin(2, 6)] + games("000000")
        self.assertEqual([next_behind(even, games("0000"[:more])) for more in range(4)], [2, 1, 0, 3])
        odd = [begin(2, 6)] + games("0001000")
        self.assertEqual([next_behind(odd, games("0000"[:more])) for more in range(4)], [1, 2, 3, 0])

    def test_several_sets(self):
        done = [(6, 3, 0), (3, 6, 0), (6, 1, 0), (0, 6, 0)]
        given = [next_behind(begin(3, 6), told(done[:count])) for count in range(5)]
        self.assertEqual(given, [0, 3, 0, 1, 3])


class TieBreak(unittest.TestCase):

    BY_POINTS = [0, 1, 1, 0, 0, 1, 3, 2, 2, 3, 3, 2, 0, 1, 1, 0, 0, 1, 3, 2, 2, 3, 3, 2, 0]

    def test_through_it(self):
        for each in (2, 4, 6, 8):
            given = next_at_each(begin(2, each), games("01" * each), text="01" * 12)
            self.assertEqual(given, self.BY_POINTS)

    def test_where_the_games_before_it_changed_ends(self):
        # 6 games make 3 changes of ends; 12 make 6.
        for each in (3, 5, 7):
            given = next_at_each(begin(2, each), games("01" * each), text="01" * 12)
            self.assertEqual(given, [(answer + 2) % 4 for answer in self.BY_POINTS])

    def test_where_the_other_one_begins_it(self):
        given = next_at_each(begin(2, 6), told([(6, 1, 0)], (6, 6, 0, 0)), text="01" * 12)
        self.assertEqual(given, [answer + 1 if answer % 2 == 0 else answer - 1 for answer in self.BY_POINTS])

    def test_told_within_it(self):
        for played, answer in enumerate(self.BY_POINTS):
            now = (6, 6, (played + 1) // 2, played // 2)
            self.assertEqual(next_behind(begin(2, 6), told([], now)), answer, now)
        self.assertEqual(next_behind(begin(2, 6), told([], (6, 6, 6, 0))), 3)
        self.assertEqual(next_behind(begin(2, 6), told([], (6, 6, 0, 5))), 1)
        self.assertEqual(next_behind(begin(2, 6), told([], (6, 6, 60, 60))), 0)

    def test_behind_it(self):
        # 13 games make 7 changes of ends; within the tie break one behind each six points, not behind its last.
        by_loser = [1, 1, 1, 1, 1, 1, 3, 3, 3, 1, 1, 1, 3]
        for loser, answer in enumerate(by_loser):
            done = [(7, 6, loser)]
            self.assertEqual(next_behind(begin(2, 6), told(done)), answer, loser)
            self.assertEqual(next_behind(begin(2, 6), told([(6, 7, loser)])), answer, loser)
            text = "01" * loser + "00" if loser > 4 else "1" * loser + "0" * 7
            self.assertEqual(next_behind(begin(2, 6), games("01" * 6), points(text)), answer, loser)

    def test_back_over_its_end(self):
        calls = [begin(2, 6)] + games("01" * 6) + points("01" * 6 + "00" + "1111")
        given = [next_behind(calls, [back()] * taken) for taken in range(8)]
        self.assertEqual(given, [0, 3, 3, 3, 3, 1, 0, 2])

    def test_right_within_it(self):
        calls = [begin(2, 6)] + games("01" * 6) + points("0000001")
        self.assertEqual(next_behind(calls), 2)
        self.assertEqual(next_behind(calls, right(0)), 1)
        self.assertEqual(next_behind(calls, right(0), right(0)), 2)


class BehindOtherCalls(unittest.TestCase):

    def test_told_is_gone_on_from(self):
        calls = [begin(2, 6), told([(7, 6, 6)], (2, 1, 3, 0))]
        self.assertEqual(next_behind(calls), 2)
        self.assertEqual(next_behind(calls, point(0)), 3)
        self.assertEqual(next_behind(calls, point(0), back()), 2)

    def test_refused_told_and_begin(self):
        calls = [begin(2, 6), told([], (1, 0, 0, 0))]
        self.assertEqual(next_behind(calls, told([], (2, 0, 4, 4)), begin(0, 6), told([(6, 5, 0)])), 3)

    def test_rules_in_the_middle(self):
        calls = [begin(2, 6), told([(6, 1, 0)], (1, 0, 0, 0))]
        self.assertEqual(answered(calls, serving(), begin(2, 6), serving())[-3:], [2, 0, 0])
        calls = [begin(1, 6, 1), told([], (6, 6, 1, 0)), serving(), begin(1, 6, 0), told([], (6, 6, 1, 0)), serving()]
        self.assertEqual(answered(calls), [0, 0, 0, 0, 0, 1])

    def test_a_thousand_points(self):
        full = [begin(1, 8, 1)] + points("0000 1111" * 125)
        # 250 games make 125 changes of ends.
        self.assertEqual(answered(full, serving(), point(0), serving())[-3:], [2, -12, 2])
        tie_break = [begin(1, 6), told([], (6, 6, 0, 0))] + points("01" * 500)
        # Behind 1,000 points ends were changed 166 times, and 500 turns are over.
        self.assertEqual(answered(tie_break, serving(), back(), serving())[-3:], [0, 999, 0])


class Umpire:
    """Plays a match from its beginning and turns server and ends by hand as things happen."""

    def __init__(self, rules):
        self.rules = rules
        self.score = START
        self.server = 0
        self.ends = 0
        self.games_of_set = 0
        self.tie_break = []

    def play(self, who):
        before = self.score
        self.score = step(self.rules, before, who)
        game_over = before[0] != self.score[0] or before[1:3] != self.score[1:3]
        if game_over:
            self.end_game(before)
        elif is_tie_break(self.rules, self.score):
            self.tie_break.append(who)
            if len(self.tie_break) % 6 == 0:
                self.ends = 1 - self.ends

    def end_game(self, before):
        self.tie_break = []
        self.server = 1 - self.server
        self.games_of_set += 1
        if self.games_of_set in range(1, 200, 2):
            self.ends = 1 - self.ends
        if before[0] != self.score[0]:
            self.games_of_set = 0

    def expects(self):
        if is_over(self.rules, self.score):
            return -17
        turn = self.server
        left = 1
        for one in self.tie_break:
            left -= 1
            if left == 0:
                turn = 1 - turn
                left = 2
        return turn + 2 * self.ends


class WholeMatches(unittest.TestCase):

    def test_against_an_umpire(self):
        source = random.Random(30)
        tie_breaks = 0
        for turn in range(60):
            rules = (source.choice((1, 2, 3)), source.choice((2, 2, 3, 6, 7)), source.choice((0, 1)),
                     source.choice((0, 1)))
            umpire = Umpire(rules)
            calls = [begin(*rules)]
            wanted = [0]
            while not is_over(rules, umpire.score):
                who = source.choice((0, 1))
                umpire.play(who)
                tie_breaks += len(umpire.tie_break) == 7
                done, now = umpire.score[0], umpire.score[1:]
                calls += [point(who), serving()]
                wanted += [int(is_over(rules, umpire.score)), umpire.expects()]
                self.assertEqual(next_behind(begin(*rules), told(done, now)), umpire.expects())
            self.assertIsNone(difference(answered(calls), wanted))
        self.assertGreater(tie_breaks, 20)


if __name__ == "__main__":
    unittest.main()
