"""Point 6: need, how many points in a row win the match."""

import itertools
import random
import unittest

from calls import LARGEST, answered, back, begin, count, games, need, point, points, right, score, told
from plain_desk import is_over, reachable
from pointdesk.desk import answers


class Needing(unittest.TestCase):

    def assert_needs(self, rules, start, first, other):
        """What each player needs, and that just so many points in a row end the match."""
        calls = [begin(*rules), told(*start)]
        self.assertEqual(answered(calls, need(0), need(1))[-2:], [first, other], (rules, start))
        for who, needed in ((0, first), (1, other)):
            played = answered(calls, [point(who)] * (needed - 1), count(), point(who), need(who), need(1 - who))
            self.assertEqual(played[2:2 + needed - 1], [0] * (needed - 1), (rules, start, who))
            self.assertEqual(played[-3:], [1, -17, -17], (rules, start, who))


class Refusals(Needing):

    def test_no_rules(self):
        self.assertEqual(answers([7, 0, 7, 1]), [1, -61, 1, -61])
        self.assertEqual(answered(need(2), need(LARGEST), begin(0, 2), need(0)), [-61, -61, -22, -61])

    def test_who(self):
        self.assertEqual(answered(begin(1, 2), need(0), need(1), need(2), need(3), need(LARGEST)),
                         [0, 8, 8, -22, -22, -22])

    def test_the_match_is_over(self):
        calls = [begin(1, 2)] + points("0" * 8)
        self.assertEqual(answered(calls, need(0), need(1), back(), need(0))[-4:], [-17, -17, 7, 1])
        self.assertEqual(answered(begin(2, 6), told([(6, 0, 0), (7, 6, 3)]), need(0), need(1))[-2:], [-17, -17])

    def test_who_is_asked_ahead_of_the_end(self):
        self.assertEqual(answered(begin(1, 2), told([(2, 0, 0)]), need(2), need(1)), [0, 0, -22, -17])

    def test_changes_nothing(self):
        calls = [begin(2, 3), told([(3, 1, 0)], (1, 2, 0, 3))] + points("001")
        plain = answered(calls, score(), count(), back())
        self.assertEqual(answered(calls, need(0), need(1), need(2), score(), count(), back())[-3:], plain[-3:])


class Numbers(Needing):

    def test_from_the_beginning(self):
        for sets, each, long, short in itertools.product((1, 2, 3), range(2, 9), (0, 1), (0, 1)):
            both = 4 * each * sets
            self.assert_needs((sets, each, long, short), ([], (0, 0, 0, 0)), both, both)

    def test_within_a_game(self):
        self.assert_needs((1, 6, 0, 0), ([], (5, 0, 3, 0)), 1, 5 + 5 * 4 + 4)
        self.assert_needs((1, 6, 0, 0), ([], (5, 5, 2, 3)), 3 + 4, 1 + 4)
        self.assert_needs((1, 6, 0, 0), ([], (5, 5, 3, 3)), 2 + 4, 2 + 4)
        self.assert_needs((1, 6, 0, 0), ([], (5, 5, 4, 3)), 1 + 4, 3 + 4)
        self.assert_needs((1, 6, 0, 0), ([], (5, 4, 3, 4)), 3, 1 + 4 + 4)

    def test_without_advantage(self):
        self.assert_needs((1, 6, 0, 1), ([], (5, 4, 3, 3)), 1, 1 + 4 + 4)
        self.assert_needs((1, 6, 0, 1), ([], (0, 0, 0, 3)), 4 + 20, 1 + 20)

    def test_within_a_set(self):
        self.assert_needs((1, 6, 0, 0), ([], (0, 4, 0, 0)), 24, 8)
        self.assert_needs((1, 6, 0, 0), ([], (0, 5, 0, 0)), 28, 4)
        self.assert_needs((1, 6, 0, 0), ([], (6, 5, 0, 0)), 4, 4 + 7)
        self.assert_needs((2, 6, 0, 0), ([(6, 7, 3)], (4, 5, 1, 2)), 3 + 8 + 24, 2)

    def test_in_a_tie_break(self):
        self.assert_needs((1, 6, 0, 0), ([], (6, 6, 0, 0)), 7, 7)
        self.assert_needs((1, 6, 0, 0), ([], (6, 6, 6, 0)), 1, 8)
        self.assert_needs((1, 6, 0, 0), ([], (6, 6, 5, 4)), 2, 3)
        self.assert_needs((1, 6, 0, 0), ([], (6, 6, 6, 5)), 1, 3)
        self.assert_needs((1, 6, 0, 0), ([], (6, 6, 6, 6)), 2, 2)
        self.assert_needs((1, 6, 0, 1), ([], (6, 6, 3, 3)), 4, 4)
        self.assert_needs((1, 6, 0, 0), ([], (6, 6, 60, 59)), 1, 3)
        self.assert_needs((2, 6, 0, 0), ([(6, 0, 0)], (6, 6, 3, 5)), 4, 2 + 24)
        self.assert_needs((2, 6, 1, 0), ([(6, 0, 0)], (6, 6, 3, 5)), 4, 2 + 24)
        self.assert_needs((3, 2, 1, 0), ([], (2, 2, 1, 6)), 7 + 16, 1 + 16)

    def test_in_a_deciding_set_that_goes_on(self):
        before = [(6, 0, 0), (0, 6, 0)]
        self.assert_needs((2, 6, 1, 0), (before, (6, 6, 0, 0)), 8, 8)
        self.assert_needs((2, 6, 1, 0), (before, (6, 5, 0, 0)), 4, 12)
        self.assert_needs((2, 6, 1, 0), (before, (7, 6, 3, 2)), 1, 3 + 8)
        self.assert_needs((2, 6, 1, 0), (before, (6, 7, 3, 4)), 3 + 8, 1)
        self.assert_needs((2, 6, 1, 0), (before, (60, 59, 0, 0)), 4, 12)
        self.assert_needs((1, 8, 1, 1), ([], (60, 60, 3, 3)), 5, 5)
        self.assert_needs((2, 6, 0, 0), (before, (6, 6, 0, 0)), 7, 7)
        self.assert_needs((2, 6, 1, 0), (before[:1], (5, 6, 0, 0)), 4 + 7, 4 + 24)

    def test_at_the_last_point(self):
        self.assert_needs((1, 2, 0, 0), ([], (1, 0, 3, 0)), 1, 5 + 8)
        self.assert_needs((2, 6, 0, 0), ([(6, 0, 0)], (6, 6, 9, 8)), 1, 3 + 24)
        self.assert_needs((2, 6, 1, 0), ([(6, 0, 0), (0, 6, 0)], (8, 7, 4, 3)), 1, 3 + 8)
        self.assert_needs((1, 2, 0, 1), ([], (1, 1, 3, 3)), 1 + 4, 1 + 4)
        self.assert_needs((3, 2, 0, 1), ([(2, 0, 0), (0, 2, 0)] * 2, (1, 0, 3, 3)), 1, 1 + 8)

    def test_at_all_scores_of_small_matches(self):
        for long, short in itertools.product((0, 1), repeat=2):
            rules = (1, 2, long, short)
            for found in sorted(reachable(rules, 8)):
                if is_over(rules, found):
                    continue
                start = (found[0], found[1:])
                needed = answered(begin(*rules), told(*start), need(0), need(1))[-2:]
                self.assert_needs(rules, start, *needed)


class BehindOtherCalls(Needing):

    def test_each_point_makes_it_one_less(self):
        calls = [begin(2, 3)] + games("0110") + points("011")
        needed = answered(calls, need(1))[-1]
        given = answered(calls, [call for turn in range(needed) for call in (need(1), point(1))])[len(calls):]
        self.assertEqual(given[0::2], list(range(needed, 0, -1)))
        self.assertEqual(given[1::2], [0] * (needed - 1) + [1])

    def test_back_and_right(self):
        calls = [begin(1, 2)] + points("0000 0001")
        self.assertEqual(answered(calls, need(0), back(), need(0), need(1))[-4:], [1, 7, 1, 13])
        self.assertEqual(answered(calls, right(1), need(0), need(1))[-2:], [2, 2 + 8])
        self.assertEqual(answered(calls, right(0), need(0), right(0), need(0))[-3:], [-17, 0, 1])

    def test_rules_in_the_middle(self):
        calls = [begin(1, 6), told([], (6, 6, 5, 5)), need(0), begin(2, 6), need(0), begin(0, 6), need(0)]
        self.assertEqual(answered(calls), [0, 0, 2, 0, 48, -22, 48])

    def test_a_thousand_points(self):
        # need tells of the match alone: that no more points are taken doesn't matter to it.
        full = [begin(1, 8, 1)] + points("0000 1111" * 125)
        self.assertEqual(answered(full, need(0), need(1), point(0), back(), need(0))[-5:], [8, 8, -12, 999, 5])
        tie_break = [begin(1, 6), told([], (6, 6, 0, 0))] + points("01" * 500)
        self.assertEqual(answered(tie_break, need(0), right(0), need(0))[-3:], [2, 0, -17])

    def test_behind_any_points(self):
        source = random.Random(40)
        for turn in range(150):
            rules = (source.choice((1, 2, 3)), source.choice((2, 3, 6)), source.choice((0, 1)), source.choice((0, 1)))
            text = "".join(source.choice("01") for place in range(source.randrange(150)))
            before = [begin(*rules)] + points(text)
            given = answered(before, need(0), need(1))
            for who in (0, 1):
                needed = given[-2 + who]
                if needed == -17:
                    self.assertIn(1, given)
                else:
                    played = answered(before, [point(who)] * needed)[len(before):]
                    self.assertEqual(played, [0] * (needed - 1) + [1])

    def test_5000_calls(self):
        given = answered(begin(3, 8), [need(1)] * 4999)
        self.assertEqual((len(given), set(given[1:])), (5000, {96}))


if __name__ == "__main__":
    unittest.main()
