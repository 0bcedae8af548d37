"""Point 7: count, the points and the sets of both."""

import unittest

from calls import answered, back, begin, count, games, point, points, right, told
from pointdesk.desk import answers


def count_behind(*calls):
    return answered(*calls, count())[-1]


class Answer(unittest.TestCase):

    def test_no_rules(self):
        self.assertEqual(answers([8]), [1, -61])
        self.assertEqual(answered(count(), begin(2, 1), count(), right(0), count()), [-61, -22, -61, -2, -61])

    def test_four_numbers(self):
        self.assertEqual(answers([0, 2, 6, 0, 0, 8, 2, 0, 2, 1, 2, 0, 8]),
                         [1, 0, 4, 0, 0, 0, 0, 1, 0, 1, 0, 1, 0, 4, 3, 2, 0, 0])

    def test_changes_nothing(self):
        calls = [begin(1, 2)] + points("00110")
        self.assertEqual(answered(calls, count(), count(), back(), count())[-4:],
                         [(5, 3, 0, 0), (5, 3, 0, 0), 4, (4, 2, 0, 0)])


class Points(unittest.TestCase):

    def test_who_won_them(self):
        self.assertEqual(count_behind(begin(), points("0000")), (4, 4, 0, 0))
        self.assertEqual(count_behind(begin(), points("1111")), (4, 0, 0, 0))
        self.assertEqual(count_behind(begin(), points("0111 0101")), (8, 3, 0, 0))

    def test_refused_points_are_none(self):
        self.assertEqual(count_behind(begin(), points("01"), point(2)), (2, 1, 0, 0))
        self.assertEqual(count_behind(begin(1, 2), games("11"), point(0)), (8, 0, 0, 1))

    def test_points_at_4_each_are_all_counted(self):
        self.assertEqual(count_behind(begin(), points("000111 01 10 01")), (12, 6, 0, 0))

    def test_a_thousand(self):
        full = [begin()] + points("001" + "1" + "01" * 498)
        self.assertEqual(count_behind(full), (1000, 500, 0, 0))
        self.assertEqual(answered(full, point(0), count(), back(), count())[-4:],
                         [-12, (1000, 500, 0, 0), 999, (999, 500, 0, 0)])
        self.assertEqual(answered(full, right(999), count())[-2:], [0, (1000, 499, 0, 0)])


class Sets(unittest.TestCase):

    def test_won(self):
        self.assertEqual(count_behind(begin(2, 2), games("00")), (8, 8, 1, 0))
        self.assertEqual(count_behind(begin(2, 2), games("00 11")), (16, 8, 1, 1))
        self.assertEqual(count_behind(begin(3, 2), games("11 00 11 1")), (28, 8, 1, 2))
        self.assertEqual(count_behind(begin(3, 2), games("11 00 11 00 11")), (40, 16, 2, 3))

    def test_won_by_a_tie_break(self):
        calls = [begin(2, 2)] + games("0101") + points("0" * 6 + "1")
        self.assertEqual(count_behind(calls), (23, 14, 0, 0))
        self.assertEqual(count_behind(calls, point(0)), (24, 15, 1, 0))
        self.assertEqual(count_behind(begin(2, 2), games("0101"), points("1" * 7)), (23, 8, 0, 1))

    def test_of_a_match_that_is_over(self):
        self.assertEqual(count_behind(begin(1, 2), games("00")), (8, 8, 1, 0))
        self.assertEqual(count_behind(begin(2, 6), told([(6, 0, 0), (6, 7, 1), (4, 6, 0)])), (0, 0, 1, 2))


class BehindOtherCalls(unittest.TestCase):

    def test_told(self):
        calls = [begin(3, 6)] + points("001")
        self.assertEqual(count_behind(calls, told([(6, 0, 0), (6, 7, 3), (7, 6, 0)], (3, 2, 2, 1))), (0, 0, 2, 1))
        self.assertEqual(count_behind(calls, told([(0, 6, 0)], (5, 0, 3, 0)), points("010")), (3, 2, 1, 1))
        self.assertEqual(count_behind(calls, told([])), (0, 0, 0, 0))

    def test_told_refused(self):
        calls = [begin(3, 6)] + points("001")
        for wrong in (told([(6, 5, 0)]), told([], (61, 0, 0, 0)), told([(6, 0, 0)] * 4)):
            self.assertEqual(count_behind(calls, wrong), (3, 2, 0, 0))

    def test_back(self):
        calls = [begin(2, 2)] + games("10 00")[:-4] + points("0000") + points("01")
        given = [count_behind(calls, [back()] * taken) for taken in range(4)]
        self.assertEqual(given, [(18, 13, 1, 0), (17, 13, 1, 0), (16, 12, 1, 0), (15, 11, 0, 0)])
        self.assertEqual(count_behind(begin(1, 2), told([(2, 0, 0)]), back()), (0, 0, 1, 0))
        self.assertEqual(count_behind(begin(1, 2), point(1), back(), back()), (0, 0, 0, 0))

    def test_right(self):
        calls = [begin(2, 2)] + games("00")
        self.assertEqual(count_behind(calls, right(0)), (8, 7, 0, 0))
        self.assertEqual(count_behind(calls, right(7)), (8, 7, 0, 0))
        self.assertEqual(count_behind(calls, right(0), right(0)), (8, 8, 1, 0))
        self.assertEqual(count_behind(calls, right(8)), (8, 8, 1, 0))

    def test_right_refused(self):
        calls = [begin(1, 2)] + points("0000 0001 1")
        self.assertEqual(answered(calls, right(1), count())[-2:], [-33, (9, 7, 0, 0)])

    def test_rules_in_the_middle(self):
        calls = [begin(2, 6), told([(6, 0, 0)])] + points("001")
        self.assertEqual(count_behind(calls, begin(2, 6)), (0, 0, 0, 0))
        self.assertEqual(count_behind(calls, begin(2, 9)), (3, 2, 1, 0))


if __name__ == "__main__":
    unittest.main()
