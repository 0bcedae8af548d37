"""Point 5: score, and a score told in text."""

import unittest

from calls import (
    answered, back, begin, count, games, need, point, points, right, score, serving, text_behind, told, written,
)
from pointdesk.desk import answers


class Text(unittest.TestCase):

    def assert_text(self, rules, start, text):
        self.assertEqual(text_behind(begin(*rules), told(*start)), text)


class Answer(unittest.TestCase):

    def test_no_rules(self):
        self.assertEqual(answers([5]), [1, -61])
        self.assertEqual(answered(score(), begin(4, 6), score(), back(), score()), [-61, -22, -61, -2, -61])

    def test_how_many_bytes_then_these(self):
        self.assertEqual(answers([0, 2, 6, 0, 0, 5]), [1, 0, 8, 7, 48, 45, 48, 32, 48, 45, 48])
        self.assertEqual(answers([0, 1, 2, 0, 0, 1, 3, 3, 2, 4, 4, 0, 0, 0, 0, 5]),
                         [1, 0, 1, 0, 7, 6, 51, 45, 50, 40, 52, 41])
        self.assertEqual(answers([0, 1, 2, 0, 0, 1, 0, 4, 0, 1, 4, 3, 5, 3]),
                         [1, 0, 1, 0, 9, 8, 48, 45, 49, 32, 65, 45, 52, 48, 1, -2])

    def test_changes_nothing(self):
        calls = [begin(2, 2)] + points("0000 0011 1")
        self.assertEqual(answered(calls, score(), score(), back(), score())[-4::3], answered(calls, score())[-1:]
                         + answered(calls, back(), score())[-1:])
        self.assertEqual(answered(calls, [score()] * 3, back(), right(0))[-2:], [8, 0])


class Points(Text):

    def test_of_a_game(self):
        self.assertEqual(text_behind(begin()), "0-0 0-0")
        names = ("0", "15", "30", "40")
        for first in range(4):
            for other in range(4):
                text = f"0-0 {names[first]}-{names[other]}"
                self.assertEqual(text_behind(begin(), points("0" * first + "1" * other)), text)
                self.assert_text((2, 6, 0, 1), ([], (0, 0, first, other)), text)

    def test_at_an_advantage(self):
        calls = [begin()] + points("000111")
        self.assertEqual(text_behind(calls), "0-0 40-40")
        self.assertEqual(text_behind(calls, point(0)), "0-0 A-40")
        self.assertEqual(text_behind(calls, point(1)), "0-0 40-A")
        self.assertEqual(text_behind(calls, points("01")), "0-0 40-40")
        self.assertEqual(text_behind(calls, points("10 1")), "0-0 40-A")
        self.assertEqual(text_behind(calls, points("00")), "1-0 0-0")
        self.assert_text((2, 6, 0, 0), ([], (5, 6, 3, 4)), "5-6 40-A")

    def test_without_advantage(self):
        calls = [begin(2, 6, 0, 1)] + points("000111")
        self.assertEqual(text_behind(calls), "0-0 40-40")
        self.assertEqual(text_behind(calls, point(1)), "0-1 0-0")

    def test_in_a_tie_break(self):
        calls = [begin(2, 6)] + games("01" * 6)
        self.assertEqual(text_behind(calls), "6-6 0-0")
        texts = ["1-0", "1-1", "1-2", "1-3", "1-4", "1-5", "2-5", "3-5", "4-5", "5-5", "6-5", "6-6", "7-6", "7-7"]
        given = answered(calls, [call for one in points("01111100000101") for call in (one, score())])
        self.assertEqual([written(answer) for answer in given[-27::2]], ["6-6 " + text for text in texts])
        self.assert_text((2, 2, 0, 0), ([], (2, 2, 60, 59)), "2-2 60-59")
        self.assert_text((2, 8, 0, 1), ([(8, 0, 0)], (8, 8, 4, 3)), "8-0 8-8 4-3")

    def test_where_the_deciding_set_has_no_tie_break(self):
        before = [(6, 4, 0), (4, 6, 0)]
        self.assert_text((2, 6, 1, 0), (before, (6, 6, 3, 1)), "6-4 4-6 6-6 40-15")
        self.assert_text((2, 6, 1, 0), (before, (20, 20, 4, 3)), "6-4 4-6 20-20 A-40")
        self.assert_text((2, 6, 0, 0), (before, (6, 6, 3, 1)), "6-4 4-6 6-6 3-1")
        self.assert_text((2, 6, 1, 0), (before[:1], (6, 6, 3, 1)), "6-4 6-6 3-1")


class Sets(Text):

    def test_without_a_tie_break(self):
        self.assertEqual(text_behind(begin(2, 6), games("000000")), "6-0 0-0 0-0")
        self.assertEqual(text_behind(begin(2, 6), games("111111")), "0-6 0-0 0-0")
        self.assertEqual(text_behind(begin(2, 6), games("01" * 5 + "11"), point(0)), "5-7 0-0 15-0")
        self.assert_text((3, 6, 0, 0), ([(7, 5, 0), (4, 6, 0)], (1, 2, 0, 3)), "7-5 4-6 1-2 0-40")

    def test_won_by_a_tie_break(self):
        before = [begin(2, 6)] + games("01" * 6)
        self.assertEqual(text_behind(before, points("0" * 7)), "7-6(0) 0-0 0-0")
        self.assertEqual(text_behind(before, points("1" * 7)), "6-7(0) 0-0 0-0")
        self.assertEqual(text_behind(before, points("01" * 5 + "11")), "6-7(5) 0-0 0-0")
        self.assertEqual(text_behind(before, points("01" * 10 + "00"), points("1")), "7-6(10) 0-0 0-15")
        self.assert_text((3, 2, 0, 0), ([(3, 2, 60), (2, 3, 0), (3, 1, 0)], (0, 0, 0, 0)), "3-2(60) 2-3(0) 3-1 0-0 0-0")

    def test_of_each_number_of_games(self):
        for each in range(2, 9):
            rules = (2, each, 1, 0)
            self.assert_text(rules, ([(each, 0, 0)],), f"{each}-0 0-0 0-0")
            self.assert_text(rules, ([(each - 1, each + 1, 0)],), f"{each - 1}-{each + 1} 0-0 0-0")
            self.assert_text(rules, ([(each, each + 1, 3)],), f"{each}-{each + 1}(3) 0-0 0-0")


class MatchIsOver(Text):

    def test_told(self):
        self.assert_text((1, 6, 0, 0), ([(6, 0, 0)],), "6-0")
        self.assert_text((1, 6, 0, 0), ([(6, 7, 0)],), "6-7(0)")
        self.assert_text((2, 6, 0, 0), ([(6, 4, 0), (4, 6, 0), (7, 6, 11)],), "6-4 4-6 7-6(11)")
        self.assert_text((1, 6, 1, 0), ([(60, 58, 0)],), "60-58")
        five = [(6, 0, 0), (6, 7, 2), (7, 5, 0), (4, 6, 0), (9, 11, 0)]
        self.assert_text((3, 6, 1, 0), (five,), "6-0 6-7(2) 7-5 4-6 9-11")

    def test_played(self):
        calls = [begin(1, 2)] + games("0") + points("0000")
        self.assertEqual(text_behind(calls), "2-0")
        self.assertEqual(text_behind(calls, point(0)), "2-0")
        self.assertEqual(text_behind(calls, back()), "1-0 40-0")
        self.assertEqual(text_behind(calls, right(0)), "1-0 40-15")
        self.assertEqual(text_behind(begin(1, 2), told([], (2, 2, 8, 8)), points("11")), "2-3(8)")


class BehindOtherCalls(Text):

    def test_back_over_ends(self):
        calls = [begin(2, 6), told([(6, 2, 0)], (6, 5, 3, 4))] + points("1" + "1010101010" + "11" + "0")
        wanted = ["6-2 6-7(5) 0-0 15-0", "6-2 6-7(5) 0-0 0-0", "6-2 6-6 5-6", "6-2 6-6 5-5", "6-2 6-6 4-5"]
        self.assertEqual([text_behind(calls, [back()] * taken) for taken in range(5)], wanted)
        self.assertEqual([text_behind(calls, [back()] * taken) for taken in (12, 13, 14)],
                         ["6-2 6-6 0-1", "6-2 6-6 0-0", "6-2 6-5 40-A"])

    def test_right(self):
        calls = [begin(2, 2)] + points("0001 0 1111")
        self.assertEqual(text_behind(calls), "1-1 0-0")
        self.assertEqual(text_behind(calls, right(8)), "0-1 0-15")
        self.assertEqual(text_behind(calls, right(8), right(8)), "1-1 0-0")
        self.assertEqual(text_behind(calls, right(9)), "1-1 0-0")

    def test_right_refused(self):
        calls = [begin(1, 2)] + points("0000 000 1 0")
        self.assertEqual(text_behind(calls), "2-0")
        calls = [begin(1, 2)] + points("0000 000 1 1")
        self.assertEqual(answered(calls, right(1))[-1], -33)
        self.assertEqual(text_behind(calls, right(1)), "1-0 40-30")

    def test_rules_in_the_middle(self):
        before = [begin(2, 6), told([(6, 2, 0)], (6, 6, 3, 4))] + points("01")
        self.assertEqual(text_behind(before, begin(1, 2)), "0-0 0-0")
        self.assertEqual(text_behind(before, begin(1, 9)), "6-2 6-6 4-5")
        self.assertEqual(text_behind(before, begin(1, 6, 1), told([], (6, 6, 2, 3))), "6-6 30-40")

    def test_refused_told(self):
        before = [begin(2, 6), told([(6, 2, 0)], (6, 6, 3, 4))] + points("01")
        for wrong in (told([(6, 5, 0)]), told([(61, 0, 0)]), told([], (0, 0, 4, 4)), told([(6, 0, 0)] * 6)):
            self.assertEqual(text_behind(before, wrong), "6-2 6-6 4-5")

    def test_a_thousand_points(self):
        before = [begin(1, 8, 1)] + points("0000 1111" * 125)
        self.assertEqual(text_behind(before), "125-125 0-0")
        self.assertEqual(text_behind(before, point(0)), "125-125 0-0")
        self.assertEqual(text_behind(before, right(0)), "125-124 15-40")
        self.assertEqual(text_behind(begin(), points("01" * 500)), "0-0 40-40")
        self.assertEqual(text_behind(begin(), told([], (6, 6, 0, 0)), points("01" * 500)), "6-6 500-500")

    def test_5000_calls(self):
        given = answered(begin(3, 8), told([(8, 9, 60), (9, 8, 60)] * 2, (8, 8, 60, 60)), [score()] * 4998)
        text = "8-9(60) 9-8(60) 8-9(60) 9-8(60) 8-8 60-60"
        self.assertEqual({written(answer) for answer in given[2:]}, {text})
        self.assertEqual(len(given), 5000)

    def test_beside_the_other_questions(self):
        given = answered(begin(1, 2), score(), serving(), need(0), count(), score())
        self.assertEqual(given[1], given[5])
        self.assertEqual(given[2:5], [0, 8, (0, 0, 0, 0)])


if __name__ == "__main__":
    unittest.main()
