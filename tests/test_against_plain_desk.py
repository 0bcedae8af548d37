"""Many calls one behind another, held against a desk that is slow and plain."""

import random
import unittest

from calls import answered, back, begin, point, right, told
from plain_desk import START, PlainDesk, is_over, reachable, step
from pointdesk.score import Rules, after_point, first_score, match_over


class ManyCalls(unittest.TestCase):

    def test_calls_of_all_kinds(self):
        source = random.Random(20)
        known = {}
        for turn in range(250):
            calls, wanted = self.some_calls(source, known)
            self.assertEqual(answered(calls), wanted, (turn, calls))

    def some_calls(self, source, known):
        desk = PlainDesk()
        calls = []
        wanted = []
        for place in range(source.choice((5, 60, 150))):
            call, answer = self.some_call(source, desk, known, place)
            calls.append(call)
            wanted.append(answer)
        return calls, wanted

    def some_call(self, source, desk, known, place):
        lot = source.random()
        if lot < 0.01 or (place == 0 and lot < 0.95):
            rules = (source.choice((1, 1, 2, 3, 4)), source.choice((2, 2, 2, 3, 9)), source.choice((0, 1, 7)),
                     source.choice((0, 1, 7)))
            return begin(*rules), desk.begin(*rules)
        if lot < 0.03:
            score, can_be = self.some_score(source, desk, known)
            return told(score[0], score[1:]), desk.told(score, can_be)
        if lot < 0.13:
            return back(), desk.back()
        if lot < 0.25:
            k = source.choice((0, 0, 1, 2, 5, 20, len(desk.won), max(len(desk.won) - 1, 0)))
            return right(k), desk.right(k)
        who = source.choice((0, 0, 0, 1, 1, 1, 1)) if lot < 0.99 else 2
        return point(who), desk.point(who)

    def some_score(self, source, desk, known):
        """A score that can be, or one that differs from such a score in one number, and whether it can be."""
        if desk.rules is None or desk.rules[0] > 1:
            return START, True
        if desk.rules not in known:
            found = reachable(desk.rules, 11)
            known[desk.rules] = (found, sorted(found))
        found, listed = known[desk.rules]
        score = source.choice(listed)
        if source.random() < 0.5:
            numbers = list(score)
            numbers[source.randrange(1, 5)] = source.randrange(6)
            score = tuple(numbers)
        return score, score in found


class ManyPoints(unittest.TestCase):

    def test_score_behind_each_point(self):
        source = random.Random(21)
        for turn in range(120):
            rules = (source.choice((1, 2, 3)), source.randrange(2, 9), source.choice((0, 1)), source.choice((0, 1)))
            lean = source.choice((0.45, 0.5, 0.5, 0.5, 0.55))
            score = first_score()
            plain = START
            while not is_over(rules, plain):
                self.assertFalse(match_over(Rules(*rules), score))
                who = int(source.random() < lean)
                score = after_point(Rules(*rules), score, who)
                plain = step(rules, plain, who)
                self.assertEqual((score.done, *score.games, *score.points), plain)
            self.assertTrue(match_over(Rules(*rules), score))


if __name__ == "__main__":
    unittest.main()
