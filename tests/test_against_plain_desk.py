"""Many calls one behind another, held against a desk that is slow and plain."""

import random
import unittest

from calls import answered, back, begin, count, difference, need, point, points, right, score, serving, told
from plain_desk import START, PlainDesk, is_over, reachable, step
from pointdesk.score import Rules, after_point, first_score, match_over


class ManyCalls(unittest.TestCase):

    def test_calls_of_all_kinds(self):
        source = random.Random(20)
        known = {}
        asked = {}
        for turn in range(300):
            calls, wanted = self.some_calls(source, known)
            self.assertIsNone(difference(answered(calls), wanted), (turn, calls))
            for call, answer in zip(calls, wanted):
                kind = answer if isinstance(answer, int) and answer < 0 else "answered"
                asked.setdefault(call[0], {}).setdefault(kind, 0)
                asked[call[0]][kind] += 1
        self.assert_all_came_about(asked)

    def assert_all_came_about(self, asked):
        """Each call was answered and refused in all the ways that this many calls can lead to, and not just once."""
        ways = {0: (-22,), 1: (-61, -71, -33), 2: (-61, -22, -17), 3: (-2,), 4: (-2, -33), 5: (-61,), 6: (-61, -17),
                7: (-61, -22, -17), 8: (-61,)}
        for call, refusals in ways.items():
            for kind in ("answered", *refusals):
                self.assertGreater(asked[call].get(kind, 0), 5, (call, kind))

    def test_a_thousand_points(self):
        source = random.Random(22)
        desk = PlainDesk()
        calls = [begin(1, 8, 1, 0)]
        wanted = [desk.begin(1, 8, 1, 0)]
        # Games are won by turns, however long they are, so the match goes on.
        text = ""
        while len(text) < 1002:
            text += source.choice(("0000", "01000", "110000", "00011100", "111000011000"))
            text += source.choice(("1111", "10111", "001111", "11100011", "000111100111"))
        for one in points(text[:1002]):
            calls.append(one)
            wanted.append(desk.point(one[1]))
        for place in range(300):
            kind = source.choice((right, back, point, None, None, None))
            number = source.choice((0, 1, 999, 500))
            if kind is None:
                call, answer = self.some_question(source, desk)
            elif kind is right:
                call, answer = right(number), desk.right(number)
            elif kind is point:
                call, answer = point(number % 2), desk.point(number % 2)
            else:
                call, answer = back(), desk.back()
            calls.append(call)
            wanted.append(answer)
        self.assertIsNone(difference(wanted[:1003], [0] * 1001 + [-12, -12]))
        self.assertIsNone(difference(answered(calls), wanted))

    def some_calls(self, source, known):
        desk = PlainDesk()
        calls = []
        wanted = []
        for place in range(source.choice((5, 60, 150, 250))):
            call, answer = self.some_call(source, desk, known, place)
            calls.append(call)
            wanted.append(answer)
        return calls, wanted

    def some_call(self, source, desk, known, place):
        lot = source.random()
        if lot < 0.01 or (place == 0 and lot < 0.9):
            rules = (source.choice((1, 1, 2, 3, 4)), source.choice((2, 2, 2, 3, 6, 9)), source.choice((0, 1, 7)),
                     source.choice((0, 1, 7)))
            return begin(*rules), desk.begin(*rules)
        if lot < 0.04:
            told_score, can_be = self.some_score(source, desk, known)
            return told(told_score[0], told_score[1:]), desk.told(told_score, can_be)
        if lot < 0.12:
            return back(), desk.back()
        if lot < 0.20:
            k = source.choice((0, 0, 1, 2, 5, 20, len(desk.won), max(len(desk.won) - 1, 0)))
            return right(k), desk.right(k)
        if lot < 0.55:
            return self.some_question(source, desk)
        who = source.choice((0, 0, 0, 1, 1, 1, 1)) if lot < 0.99 else 2
        return point(who), desk.point(who)

    def some_question(self, source, desk):
        kind = source.choice(("score", "serving", "need", "count"))
        if kind == "score":
            return score(), desk.score()
        if kind == "serving":
            return serving(), desk.serving()
        if kind == "count":
            return count(), desk.count()
        who = source.choice((0, 0, 0, 1, 1, 1, 2))
        return need(who), desk.need(who)

    def some_score(self, source, desk, known):
        """A score that can be, or one that differs from such a score in one number, and whether it can be."""
        if desk.rules is None:
            return START, True
        if source.random() < 0.1:
            return source.choice((((), 61, 60, 0, 0), ((), 0, 0, 0, 61), (((6, 0, 61),), 0, 0, 0, 0),
                                  (((6, 0, 0),) * 6, 0, 0, 0, 0))), False
        if desk.rules[0] > 1:
            return self.played_score(source, desk.rules), True
        if desk.rules not in known:
            found = reachable(desk.rules, 11)
            known[desk.rules] = (found, sorted(found))
        found, listed = known[desk.rules]
        chosen = source.choice(listed)
        if source.random() < 0.5:
            numbers = list(chosen)
            numbers[source.randrange(1, 5)] = source.randrange(6)
            chosen = tuple(numbers)
        return chosen, chosen in found

    def played_score(self, source, rules):
        played = START
        for turn in range(source.randrange(300)):
            if is_over(rules, played):
                break
            played = step(rules, played, source.choice((0, 1)))
        return played


class ManyPoints(unittest.TestCase):

    def test_score_behind_each_point(self):
        source = random.Random(21)
        for turn in range(120):
            rules = (source.choice((1, 2, 3)), source.randrange(2, 9), source.choice((0, 1)), source.choice((0, 1)))
            lean = source.choice((0.45, 0.5, 0.5, 0.5, 0.55))
            played = first_score()
            plain = START
            while not is_over(rules, plain):
                self.assertFalse(match_over(Rules(*rules), played))
                who = int(source.random() < lean)
                played = after_point(Rules(*rules), played, who)
                plain = step(rules, plain, who)
                self.assertEqual((played.done, *played.games, *played.points), plain)
            self.assertTrue(match_over(Rules(*rules), played))


if __name__ == "__main__":
    unittest.main()
