"""The interface: how calls are written as numbers and how their answers are given back."""

import unittest

from calls import LARGEST, begin, difference, games, point, points, right, told
from pointdesk.desk import answers


def line(*calls):
    return [number for call in calls for number in call]


class Numbers(unittest.TestCase):

    def test_each_call(self):
        self.assertEqual(answers([0, 2, 6, 0, 0]), [1, 0])
        self.assertEqual(answers([1, 0, 4, 0, 0, 0, 0]), [1, -61])
        self.assertEqual(answers([2, 0]), [1, -61])
        self.assertEqual(answers([3]), [1, -2])
        self.assertEqual(answers([4, 0]), [1, -2])
        self.assertEqual(answers([5]), [1, -61])
        self.assertEqual(answers([6]), [1, -61])
        self.assertEqual(answers([7, 0]), [1, -61])
        self.assertEqual(answers([8]), [1, -61])

    def test_several_calls(self):
        calls = [0, 1, 2, 0, 0, 1, 0, 4, 1, 0, 2, 3, 2, 1, 4, 0, 2, 0, 3, 2, 0, 2, 0, 2, 1]
        self.assertEqual(answers(calls), [1, 0, 1, 0, 1, 0, 1, 0, 1, 0, 1, 1, 1, 0, 1, 1, 1, -17])

    def test_all_nine_calls_in_one_list(self):
        calls = [5, 0, 2, 2, 0, 0, 1, 3, 3, 2, 11, 4, 1, 0, 3, 3, 2, 1, 5, 6, 7, 0, 7, 1, 8, 4, 0, 5, 3, 8, 2, 0, 2, 0,
                 5, 6, 7, 1, 8, 7, 2]
        wanted = [1, -61, 1, 0, 1, 0, 1, 0, 17, 16, *b"3-2(11) 1-0 40-A", 1, 2, 1, 3, 1, 17, 4, 1, 0, 1, 0, 1, 0,
                  17, 16, *b"3-2(11) 1-0 A-40", 1, 0, 4, 0, 0, 1, 0, 1, 0, 1, 1, 12, 11, *b"3-2(11) 2-0", 1, -17,
                  1, -17, 4, 2, 2, 2, 0, 1, -22]
        self.assertEqual(answers(calls), wanted)

    def test_told_with_several_sets(self):
        calls = [0, 2, 6, 0, 0, 1, 6, 6, 4, 0, 6, 7, 3, 4, 5, 4, 3, 2, 2, 0, 1, 9, 6, 4, 0, 4, 6, 0, 7, 6, 5, 4, 0, 0,
                 0, 0, 2, 0]
        self.assertEqual(answers(calls), [1, 0, 1, 0, 1, 1, 1, 0, 1, -17])

    def test_told_with_the_longest_list(self):
        done = [LARGEST] * 60
        self.assertEqual(answers([0, 3, 8, 0, 0, 1, 60] + done + [4, 0, 0, 0, 0, 2, 1]), [1, 0, 1, -71, 1, 0])
        self.assertEqual(answers([1, 60] + done + [4] + [LARGEST] * 4 + [3]), [1, -61, 1, -2])

    def test_large_numbers(self):
        calls = line(begin(LARGEST, 6), begin(3, LARGEST), begin(3, 8, LARGEST, LARGEST), point(LARGEST),
                     right(LARGEST), told([(LARGEST,) * 3], (LARGEST,) * 4), told([], (0, 0, 0, LARGEST)))
        self.assertEqual(answers(calls), [1, -22, 1, -22, 1, 0, 1, -22, 1, -2, 1, -71, 1, -71])

    def test_answers_are_whole_numbers(self):
        given = answers(line([5], [8], begin(1, 2), *games("00"), [5], [6], [7, 0], [8], right(0), [3], point(5), [5],
                             [6], [7, 1], [8]))
        self.assertEqual({type(number) for number in given}, {int})
        self.assertIs(type(given), list)


class Lists(unittest.TestCase):

    def test_5000_calls(self):
        calls = line(begin(1, 2, 1, 0), *points("01" * 500), *[right(999)] * 100, *[[3]] * 999, *[point(1)] * 2900)
        self.assertEqual(len(calls), 5 + 2000 + 200 + 999 + 5800)
        given = answers(calls)
        self.assertEqual(len(given), 10000)
        self.assertIsNone(difference(given[0::2], [1] * 5000))
        wanted = [0] * 1101 + list(range(999, 0, -1)) + [0] * 7 + [1] + [-17] * 2892
        self.assertIsNone(difference(given[1::2], wanted))

    def test_a_list_of_nearly_31000_numbers(self):
        calls = line(begin(3, 6), *[told([(6, 4, 0)] * 2, (5, 6, 3, 4))] * 2384)
        self.assertEqual(len(calls), 30997)
        self.assertIsNone(difference(answers(calls), [1, 0] * 2385))

    def test_5000_calls_without_rules(self):
        self.assertIsNone(difference(answers([3] * 5000), [1, -2] * 5000))

    def test_the_first_of_a_thousand_points_put_right_again_and_again(self):
        calls = line(begin(1, 8, 1, 0), *points("00001111" * 125), *[right(999)] * 3999)
        self.assertIsNone(difference(answers(calls), [1, 0] * 5000))

    def test_list_is_the_same_afterwards(self):
        calls = line(begin(2, 2), told([(2, 0, 0)], (1, 0, 3, 3)), *points("0110"), right(2), [3], told([(9, 9, 9)]),
                     [5], [6], [7, 0], [8])
        kept = list(calls)
        answers(calls)
        self.assertEqual(calls, kept)

    def test_nothing_is_kept(self):
        self.assertEqual(answers(line(begin(1, 2), *points("000"))), [1, 0] * 4)
        self.assertEqual(answers([2, 0, 3]), [1, -61, 1, -2])
        self.assertEqual(answers([5, 6, 7, 0, 8]), [1, -61] * 4)
        calls = line(begin(1, 2), *points("00000000"))
        self.assertEqual(answers(calls), answers(calls))

    def test_list_is_not_changed_for_a_while_either(self):
        class Fixed(list):
            def refuse(self, *given):
                raise AssertionError("the list was changed")

            append = extend = insert = pop = remove = clear = reverse = sort = refuse
            __setitem__ = __delitem__ = __iadd__ = __imul__ = refuse

        calls = Fixed(line(begin(2, 2), told([(2, 0, 0)]), *points("0110"), right(2), [3], [6], [7, 0], [8], [5]))
        self.assertEqual(answers(calls)[:16], [1, 0] * 7 + [1, 3])


if __name__ == "__main__":
    unittest.main()
