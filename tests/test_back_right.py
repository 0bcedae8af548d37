"""Point 4: back and right."""

import unittest

from calls import LARGEST, answered, back, begin, games, point, points, right, standing, told


class Back(unittest.TestCase):

    def assert_taken_back(self, rules, start, text):
        """Each point of the text taken back leaves the match as it was ahead of it, however many are taken back."""
        before = [begin(*rules), told(*start)]
        for count in range(1, len(text) + 1):
            left = text[:len(text) - count]
            calls = before + points(text) + [back()] * count
            self.assertEqual(answered(calls)[-count:], list(range(len(text) - 1, len(left) - 1, -1)))
            self.assertEqual(standing(calls), standing(before, points(left)))

    def test_no_point(self):
        self.assertEqual(answered(back()), [-2])
        self.assertEqual(answered(begin(), back(), back()), [0, -2, -2])
        self.assertEqual(answered(begin(), point(0), back(), back()), [0, 0, 0, -2])
        self.assertEqual(answered(begin(), told([], (1, 0, 2, 0)), back()), [0, 0, -2])

    def test_answers_how_many_are_left(self):
        self.assertEqual(answered(begin(), points("0110"), [back()] * 5)[5:], [3, 2, 1, 0, -2])
        self.assertEqual(answered(begin(), points("01" * 500), back(), back())[-2:], [999, 998])

    def test_over_points_at_4_each(self):
        self.assert_taken_back((2, 6, 0, 0), ([], (0, 0, 3, 2)), "10110")

    def test_over_the_end_of_a_game(self):
        self.assert_taken_back((2, 6, 0, 0), ([], (1, 0, 2, 3)), "0101100")
        self.assert_taken_back((2, 6, 0, 1), ([], (1, 0, 3, 3)), "10")

    def test_over_the_end_of_a_set(self):
        self.assert_taken_back((2, 6, 0, 0), ([], (5, 4, 2, 1)), "00110")
        self.assert_taken_back((2, 6, 0, 0), ([(6, 0, 0)], (5, 6, 2, 3)), "1100")

    def test_over_the_end_of_a_tie_break(self):
        self.assert_taken_back((2, 6, 0, 0), ([], (6, 5, 1, 3)), "1" + "0110" + "11111" + "01")
        self.assert_taken_back((2, 6, 0, 0), ([], (6, 6, 9, 9)), "0100" + "1")

    def test_over_the_end_of_the_match(self):
        self.assert_taken_back((1, 6, 0, 0), ([], (5, 3, 2, 1)), "00")
        self.assert_taken_back((2, 6, 0, 0), ([(6, 0, 0)], (6, 6, 5, 5)), "00")
        self.assert_taken_back((2, 6, 1, 0), ([(6, 0, 0), (0, 6, 0)], (9, 8, 2, 0)), "00")
        self.assertEqual(answered(begin(1, 2), games("00"), back(), point(0), back(), point(1))[-5:], [1, 7, 1, 7, 0])


class Right(unittest.TestCase):

    def assert_put_right(self, rules, start, text, k):
        """The text with its point k before the last turned is what right makes of it; put right again it's undone."""
        place = len(text) - 1 - k
        turned = text[:place] + str(1 - int(text[place])) + text[place + 1:]
        before = [begin(*rules), told(*start)]
        calls = before + points(text) + [right(k)]
        self.assertEqual(answered(calls)[-1], 0)
        self.assertEqual(standing(calls), standing(before, points(turned)))
        self.assertEqual(standing(calls, back()), standing(before, points(turned[:-1])))
        self.assertEqual(answered(calls, back())[-1], len(text) - 1)
        self.assertEqual(answered(calls, right(k))[-1], 0)
        self.assertEqual(standing(calls, right(k)), standing(before, points(text)))
        self.assertEqual(standing(calls, right(k), back()), standing(before, points(text[:-1])))

    def assert_stays(self, calls, k):
        self.assertEqual(answered(calls, right(k))[-1], -33)
        self.assertEqual(standing(calls, right(k)), standing(calls))
        count = len([call for call in calls if call[0] == 2])
        taken = [back()] * (count - 1)
        self.assertEqual(answered(calls, right(k), taken), answered(calls) + [-33] + answered(calls, taken)[len(calls):])
        self.assertEqual(standing(calls, right(k), taken), standing(calls, taken))

    def test_no_more_than_k_points(self):
        self.assertEqual(answered(right(0)), [-2])
        self.assertEqual(answered(begin(), right(0), right(LARGEST)), [0, -2, -2])
        given = answered(begin(), points("011"), right(3), right(4), right(LARGEST), right(2))
        self.assertEqual(given[4:], [-2, -2, -2, 0])
        self.assertEqual(answered(begin(), told([], (1, 0, 2, 0)), right(0)), [0, 0, -2])

    def test_refused_changes_nothing(self):
        before = [begin(2, 3)] + points("0110")
        self.assertEqual(standing(before, right(4)), standing(before))

    def test_the_last_point(self):
        self.assert_put_right((2, 6, 0, 0), ([], (0, 0, 0, 0)), "0", 0)
        self.assert_put_right((2, 6, 0, 0), ([], (0, 0, 0, 0)), "01011", 0)

    def test_an_earlier_point(self):
        for k in range(7):
            self.assert_put_right((2, 6, 0, 0), ([], (0, 0, 0, 0)), "0010111", k)

    def test_over_the_end_of_a_game(self):
        self.assert_put_right((2, 6, 0, 0), ([], (0, 0, 3, 3)), "00110", 1)
        self.assert_put_right((2, 6, 0, 1), ([], (0, 0, 3, 3)), "01101", 4)

    def test_over_the_end_of_a_set_and_a_tie_break(self):
        self.assert_put_right((2, 6, 0, 0), ([], (5, 4, 3, 2)), "011010", 5)
        self.assert_put_right((2, 6, 0, 0), ([], (6, 6, 5, 5)), "001010", 4)
        self.assert_put_right((2, 6, 0, 0), ([], (6, 5, 3, 3)), "11" + "0101" + "000000", 11)

    def test_the_last_point_no_longer_ends_the_match(self):
        calls = [begin(1, 2)] + points("0" * 8)
        self.assertEqual(answered(calls, right(0), point(1), point(0))[-4:], [1, 0, 0, 1])
        self.assert_put_right((1, 2, 0, 0), ([], (1, 0, 0, 0)), "0000", 0)
        self.assert_put_right((1, 2, 0, 0), ([], (1, 0, 0, 0)), "0000", 3)

    def test_the_match_ends_with_the_last_point(self):
        self.assertEqual(answered(begin(1, 2), points("00000001"), right(0), point(0))[-2:], [0, -17])
        self.assertEqual(answered(begin(1, 2), points("00000100"), right(2), point(1), back())[-3:], [0, -17, 7])
        self.assert_put_right((1, 2, 0, 0), ([], (1, 0, 0, 0)), "0100", 2)

    def test_the_match_would_have_been_over_before_a_later_point(self):
        self.assert_stays([begin(1, 2)] + points("0000000" + "1" + "0"), 1)
        self.assert_stays([begin(1, 2)] + points("0000000" + "1" + "1"), 1)
        self.assert_stays([begin(1, 2)] + points("0000" + "0100" + "0"), 3)
        self.assert_stays([begin(2, 2), told([(2, 0, 0)], (2, 2, 6, 5))] + points("1011011"), 6)
        self.assert_stays([begin(1, 6, 1), told([], (7, 6, 3, 0))] + points("1" * 5 + "0"), 5)

    def test_the_match_would_have_been_over_long_after_the_point(self):
        # Turned, the first point makes three games of two, and the second of them ends the match.
        calls = [begin(1, 2), told([], (0, 0, 3, 3))] + points("11" + "0000" + "0000" + "1")
        self.assertEqual(set(answered(calls)), {0})
        self.assert_stays(calls, 10)

    def test_a_thousand_points(self):
        calls = [begin(1, 2, 1)] + points("01" * 500)
        self.assertEqual(answered(calls, right(1000), right(999), right(999), right(0), point(0))[-5:],
                         [-2, 0, 0, 0, -12])
        self.assertEqual(standing(calls, right(999), right(999), [back()] * 900),
                         standing(begin(1, 2, 1), points("01" * 50)))


if __name__ == "__main__":
    unittest.main()
