"""Point 2: told, and which scores can come about."""

import itertools
import unittest

from calls import LARGEST, answered, back, begin, difference, games, points, right, standing, told
from plain_desk import is_over, reachable


class Told(unittest.TestCase):

    def answers_to(self, rules, *scores):
        return answered(begin(*rules), [told(*score) for score in scores])[1:]

    def assert_can_be(self, rules, *scores):
        for score in scores:
            self.assertEqual(self.answers_to(rules, score), [0], (rules, score))

    def assert_can_not_be(self, rules, *scores):
        for score in scores:
            self.assertEqual(self.answers_to(rules, score), [-33], (rules, score))


class TooMuch(Told):

    def test_more_than_five_sets(self):
        rules = (3, 6, 0, 0)
        five = [(6, 0, 0), (0, 6, 0), (6, 0, 0), (0, 6, 0), (6, 0, 0)]
        self.assertEqual(self.answers_to(rules, (five,)), [0])
        self.assertEqual(self.answers_to(rules, (five + [(6, 0, 0)],), ([(0, 0, 0)] * 20,)), [-71, -71])

    def test_a_number_above_60(self):
        rules = (1, 6, 1, 0)
        for number in (61, 4000, LARGEST):
            for place in range(3):
                one = [6, 0, 0]
                one[place] = number
                self.assertEqual(self.answers_to(rules, ([one],)), [-71])
            for place in range(4):
                now = [0, 0, 0, 0]
                now[place] = number
                self.assertEqual(self.answers_to(rules, ([], now)), [-71])

    def test_60_is_not_too_much(self):
        self.assert_can_be((1, 6, 1, 0), ([], (60, 60, 0, 0)), ([], (60, 59, 0, 0)), ([(60, 58, 0)],))
        self.assert_can_be((1, 6, 0, 0), ([(7, 6, 60)],), ([], (6, 6, 60, 60)), ([], (6, 6, 60, 59)))
        self.assert_can_not_be((1, 6, 0, 0), ([], (60, 60, 0, 0)), ([], (0, 0, 60, 60)), ([(60, 58, 0)],))

    def test_ahead_of_what_cannot_be(self):
        self.assertEqual(self.answers_to((1, 6, 0, 0), ([(6, 5, 0)] * 6,), ([(6, 5, 0)], (61, 0, 0, 0))), [-71, -71])


class SetsThatAreOver(Told):

    def test_ends_of_a_set(self):
        rules = (2, 6, 0, 0)
        ends = [(6, 0), (6, 1), (6, 2), (6, 3), (6, 4), (7, 5)]
        self.assert_can_be(rules, *[([(high, low, 0)],) for high, low in ends])
        self.assert_can_be(rules, *[([(low, high, 0)],) for high, low in ends])

    def test_no_ends_of_a_set(self):
        rules = (2, 6, 0, 0)
        wrong = [(0, 0), (5, 0), (5, 3), (6, 5), (6, 6), (7, 0), (7, 4), (7, 7), (8, 6), (8, 7), (9, 7), (60, 58)]
        self.assert_can_not_be(rules, *[([(high, low, 0)],) for high, low in wrong])
        self.assert_can_not_be(rules, *[([(low, high, 0)],) for high, low in wrong])

    def test_a_tie_break_and_its_losers_points(self):
        for loser in (0, 1, 4, 5, 6, 7, 20, 60):
            self.assert_can_be((2, 6, 0, 0), ([(7, 6, loser)],), ([(6, 7, loser)],))
            self.assert_can_be((2, 2, 0, 1), ([(3, 2, loser)],), ([(2, 3, loser)],))

    def test_losers_points_without_a_tie_break(self):
        self.assert_can_not_be((2, 6, 0, 0), ([(6, 4, 1)],), ([(7, 5, 3)],), ([(0, 6, 60)],))
        self.assert_can_not_be((1, 6, 1, 0), ([(8, 6, 1)],), ([(6, 0, 1)],))

    def test_few_games(self):
        self.assert_can_be((2, 2, 0, 0), ([(2, 0, 0)],), ([(3, 1, 0)],), ([(3, 2, 0)],))
        self.assert_can_not_be((2, 2, 0, 0), ([(2, 1, 0)],), ([(3, 0, 0)],), ([(4, 2, 0)],), ([(1, 0, 0)],))

    def test_one_wrong_set_among_right_ones(self):
        for place in range(4):
            done = [(6, 1, 0), (2, 6, 0), (7, 6, 3), (5, 7, 0)]
            self.assert_can_be((3, 6, 0, 0), (done,))
            done[place] = (6, 5, 0)
            self.assert_can_not_be((3, 6, 0, 0), (done,))

    def test_deciding_set_that_goes_on(self):
        for sets in (1, 2, 3):
            before = [(6, 4, 0), (4, 6, 0)] * (sets - 1)
            rules = (sets, 6, 1, 0)
            ends = [(6, 4, 0), (7, 5, 0), (8, 6, 0), (9, 11, 0), (60, 58, 0), (0, 6, 0)]
            self.assert_can_be(rules, *[(before + [one],) for one in ends])
            wrong = [(7, 6, 0), (6, 7, 5), (8, 7, 0), (9, 6, 0), (7, 4, 0), (6, 6, 0), (8, 6, 1), (5, 3, 0)]
            self.assert_can_not_be(rules, *[(before + [one],) for one in wrong])

    def test_sets_ahead_of_the_deciding_one_have_a_tie_break(self):
        self.assert_can_be((2, 6, 1, 0), ([(7, 6, 3)],), ([(6, 0, 0), (6, 7, 9)],))
        self.assert_can_not_be((2, 6, 1, 0), ([(8, 6, 0)],), ([(6, 0, 0), (6, 8, 0)],))
        self.assert_can_not_be((3, 6, 1, 0), ([(6, 0, 0), (6, 0, 0), (8, 6, 0)],), ([(6, 0, 0), (0, 6, 0), (8, 6, 0)],))

    def test_deciding_set_with_a_tie_break(self):
        before = [(6, 4, 0), (4, 6, 0)]
        self.assert_can_be((2, 6, 0, 0), (before + [(7, 6, 4)],))
        self.assert_can_not_be((2, 6, 0, 0), (before + [(8, 6, 0)],))


class EndOfTheMatch(Told):

    def test_over_with_zeros(self):
        self.assert_can_be((1, 6, 0, 0), ([(6, 0, 0)],))
        self.assert_can_be((2, 6, 0, 0), ([(6, 0, 0), (7, 6, 2)],), ([(0, 6, 0), (6, 0, 0), (5, 7, 0)],))
        self.assert_can_be((3, 6, 0, 0), ([(6, 0, 0)] * 3,))

    def test_over_with_games_or_points(self):
        for place in range(4):
            now = [0, 0, 0, 0]
            now[place] = 1
            self.assert_can_not_be((1, 6, 0, 0), ([(6, 0, 0)], now))
            self.assert_can_not_be((2, 6, 0, 0), ([(6, 0, 0), (6, 7, 2), (7, 5, 0)], now))
            self.assert_can_be((2, 6, 0, 0), ([(6, 0, 0)], now))

    def test_sets_behind_the_end(self):
        self.assert_can_not_be((1, 6, 0, 0), ([(6, 0, 0), (6, 0, 0)],), ([(6, 0, 0), (0, 6, 0)],))
        self.assert_can_not_be((2, 6, 0, 0), ([(6, 0, 0), (6, 0, 0), (0, 6, 0)],))
        self.assert_can_not_be((2, 6, 0, 0), ([(6, 0, 0), (0, 6, 0), (6, 0, 0), (6, 0, 0)],))
        self.assert_can_not_be((3, 6, 0, 0), ([(6, 0, 0)] * 5,), ([(0, 6, 0)] * 4,))

    def test_no_point_behind_it(self):
        self.assertEqual(answered(begin(1, 6), told([(6, 0, 0)]), points("01"), back()), [0, 0, -17, -17, -2])


class GamesOfTheSetThatGoesOn(Told):

    def test_games(self):
        rules = (2, 6, 0, 0)
        can_be = [(0, 0), (5, 0), (5, 4), (5, 5), (6, 5), (5, 6), (6, 6)]
        self.assert_can_be(rules, *[([], pair + (0, 0)) for pair in can_be])
        wrong = [(6, 0), (6, 4), (4, 6), (7, 5), (7, 6), (6, 7), (7, 7), (8, 7), (60, 0)]
        self.assert_can_not_be(rules, *[([], pair + (0, 0)) for pair in wrong])

    def test_deciding_set_that_goes_on(self):
        before = [(6, 0, 0), (0, 6, 0)]
        can_be = [(6, 6), (7, 6), (6, 7), (7, 7), (20, 19), (6, 5), (5, 0)]
        wrong = [(7, 5), (8, 6), (6, 4), (20, 18), (60, 0)]
        self.assert_can_be((2, 6, 1, 0), *[(before, pair + (0, 0)) for pair in can_be])
        self.assert_can_not_be((2, 6, 1, 0), *[(before, pair + (0, 0)) for pair in wrong])
        self.assert_can_not_be((2, 6, 1, 0), (before[:1], (7, 6, 0, 0)), ([], (7, 7, 0, 0)))
        self.assert_can_not_be((2, 6, 0, 0), (before, (7, 6, 0, 0)), (before, (7, 7, 0, 0)))


class PointsOfTheGame(Told):

    def test_with_advantage(self):
        pairs = list(itertools.product(range(8), repeat=2))
        can_be = [pair for pair in pairs if max(pair) < 4] + [(4, 3), (3, 4)]
        self.assert_can_be((2, 6, 0, 0), *[([], (1, 2) + pair) for pair in can_be])
        wrong = [pair for pair in pairs if pair not in can_be]
        self.assert_can_not_be((2, 6, 0, 0), *[([], (1, 2) + pair) for pair in wrong])

    def test_without_advantage(self):
        pairs = list(itertools.product(range(8), repeat=2))
        self.assert_can_be((2, 6, 0, 1), *[([], (1, 2) + pair) for pair in pairs if max(pair) < 4])
        self.assert_can_not_be((2, 6, 0, 1), *[([], (1, 2) + pair) for pair in pairs if max(pair) > 3])

    def test_in_a_tie_break(self):
        for short in (0, 1):
            can_be = [(0, 0), (6, 0), (6, 5), (6, 6), (7, 6), (6, 7), (7, 7), (8, 7), (30, 31), (4, 4)]
            wrong = [(7, 0), (7, 5), (5, 7), (8, 6), (9, 6), (30, 32), (60, 0)]
            self.assert_can_be((2, 6, 0, short), *[([], (6, 6) + pair) for pair in can_be])
            self.assert_can_not_be((2, 6, 0, short), *[([], (6, 6) + pair) for pair in wrong])

    def test_where_the_deciding_set_has_none(self):
        for both in (6, 7):
            self.assert_can_be((1, 6, 1, 0), ([], (both, both, 4, 3)), ([], (both, both, 3, 0)))
            self.assert_can_not_be((1, 6, 1, 0), ([], (both, both, 4, 0)), ([], (both, both, 5, 5)))
            self.assert_can_not_be((1, 6, 1, 1), ([], (both, both, 4, 3)))


class WhatToldDoes(Told):

    def test_points_are_gone(self):
        calls = answered(begin(), points("00110"), told([], (0, 0, 3, 2)), back(), right(0), points("1"), back())
        self.assertEqual(calls[6:], [0, -2, -2, 0, 0])

    def test_goes_on_from_there(self):
        self.assertEqual(standing(begin(2, 2), told([], (1, 0, 2, 1))), standing(begin(2, 2), points("0000 010")))
        by_points = standing(begin(2, 2), games("0101"), points("0101010101 00"), points("11"))
        self.assertEqual(standing(begin(2, 2), told([(3, 2, 5)], (0, 0, 0, 2))), by_points)

    def test_told_again(self):
        calls = [begin(2, 2), told([(2, 0, 0)], (1, 0, 3, 0)), told([], (0, 1, 0, 0))]
        self.assertEqual(standing(calls), standing(begin(2, 2), games("1")))

    def test_refused_changes_nothing(self):
        before = [begin(2, 3, 1, 0), told([(3, 1, 0)], (1, 2, 0, 3))] + points("001")
        for wrong, answer in ((told([(3, 2, 0)]), -33), (told([], (0, 0, 4, 4)), -33), (told([(61, 0, 0)]), -71),
                              (told([(3, 1, 0)] * 6), -71), (told([(3, 1, 0), (3, 0, 0)], (0, 0, 1, 0)), -33)):
            self.assertEqual(answered(before, wrong, back(), right(1))[-3:], [answer, 2, 0])
            self.assertEqual(standing(before, wrong), standing(before))


class AgainstAllThatPointsLeadTo(Told):
    """Of small matches all scores are found by playing; told takes just these."""

    def test_one_set(self):
        for long, short in itertools.product((0, 1), repeat=2):
            rules = (1, 2, long, short)
            found = reachable(rules, 12)
            tried = [((), *now) for now in itertools.product(range(6), range(6), range(10), range(10))]
            for one in itertools.product(range(7), range(7), (0, 1, 6, 9)):
                tried.append(((one,), 0, 0, 0, 0))
                tried.append(((one,), 0, 0, 0, 1))
            self.hold(rules, found, tried)

    def test_two_sets(self):
        ends = [(2, 0, 0), (0, 2, 0), (3, 1, 0), (3, 2, 0), (2, 3, 5), (4, 2, 0), (2, 1, 0), (2, 0, 1)]
        nows = [(0, 0, 0, 0), (2, 2, 6, 5), (3, 2, 0, 0), (1, 2, 3, 2), (0, 0, 4, 3)]
        for long, short in itertools.product((0, 1), repeat=2):
            rules = (2, 2, long, short)
            found = reachable(rules, 7)
            tried = [(sets, *now) for count in range(5) for sets in itertools.product(ends, repeat=count)
                     for now in nows]
            self.hold(rules, found, tried)
            self.assertEqual(set(self.tell(rules, sorted(found))), {0})

    def hold(self, rules, found, tried):
        wanted = [0 if score in found else -33 for score in tried]
        self.assertIsNone(difference(self.tell(rules, tried), wanted))
        self.assertIn(0, wanted)
        self.assertTrue(any(is_over(rules, score) for score in tried if score in found))

    def tell(self, rules, scores):
        given = []
        for place in range(0, len(scores), 1000):
            tellings = [told(score[0], score[1:]) for score in scores[place:place + 1000]]
            given.extend(answered(begin(*rules), tellings)[1:])
        return given


if __name__ == "__main__":
    unittest.main()
