"""Point 3: point, and the ends of a game, a set, a tie break and the match."""

import unittest

from calls import LARGEST, answered, back, begin, difference, games, point, points, standing, told


def other(text):
    return text.replace("0", "x").replace("1", "0").replace("x", "1")


class Playing(unittest.TestCase):

    def assert_leads_to(self, rules, start, text, done, now):
        """The points of the text lead from one score to another, and the match goes on; so for either player."""
        first = [begin(*rules), told(*start)] + points(text)
        self.assertEqual(answered(first), [0] * len(first))
        self.assertEqual(standing(first), standing(begin(*rules), told(done, now)))
        turned = [begin(*rules), told(swapped(start[0]), turn(start[1]))] + points(other(text))
        self.assertEqual(standing(turned), standing(begin(*rules), told(swapped(done), turn(now))))

    def assert_ends(self, rules, start, text):
        """The first player ends the match with the last of these points, and none is played behind it."""
        given = answered(begin(*rules), told(*start), points(text), points("01"))
        self.assertEqual(given, [0] * (1 + len(text)) + [1, -17, -17])
        turned = [told(swapped(start[0]), turn(start[1]))] + points(other(text))
        self.assertEqual(answered(begin(*rules), turned, points("01")), given)


def swapped(done):
    return [(one[1], one[0], one[2]) for one in done]


def turn(now):
    return (now[1], now[0], now[3], now[2])


class Refusals(Playing):

    def test_who(self):
        self.assertEqual(answered(begin(), point(0), point(1), point(2), point(3), point(LARGEST)),
                         [0, 0, 0, -22, -22, -22])

    def test_who_is_asked_ahead_of_the_end(self):
        self.assertEqual(answered(begin(1, 2), told([(2, 0, 0)]), point(2), point(1)), [0, 0, -22, -17])

    def test_a_thousand_points(self):
        given = answered(begin(), points("01" * 500), point(0), point(1), point(2), back(), point(1), point(0))
        self.assertIsNone(difference(given, [0] * 1001 + [-12, -12, -22, 999, 0, -12]))

    def test_a_thousand_points_since_the_last_score_told(self):
        given = answered(begin(), points("01" * 500), told([]), points("01" * 500), point(0), begin(), point(0))
        self.assertIsNone(difference(given, [0] * 2002 + [-12, 0, 0]))

    def test_the_thousandth_ends_the_match(self):
        text = "01" * 499 + "00"
        given = answered(begin(1, 2), told([], (1, 0, 0, 0)), points(text), point(0), point(2), back(), point(1))
        self.assertIsNone(difference(given, [0] * 1001 + [1, -17, -22, 999, 0]))

    def test_refused_changes_nothing(self):
        before = [begin(2, 3, 0, 1), told([(3, 1, 0)], (1, 2, 0, 3))] + points("001")
        self.assertEqual(standing(before, point(2)), standing(before))
        self.assertEqual(answered(before, point(2), back())[-2:], [-22, 2])
        full = [begin(2, 3)] + points("01" * 500)
        self.assertEqual(answered(full, point(0), back(), points("00"))[-4:], [-12, 999, 0, -12])
        over = [begin(1, 2)] + games("00")
        self.assertEqual(answered(over, point(0), back(), point(0))[-4:], [1, -17, 7, 1])


class Game(Playing):

    def test_points_add_up(self):
        self.assert_leads_to((2, 6, 0, 0), ([], (0, 0, 0, 0)), "0", [], (0, 0, 1, 0))
        self.assert_leads_to((2, 6, 0, 0), ([], (0, 0, 0, 0)), "00101", [], (0, 0, 3, 2))
        self.assert_leads_to((2, 6, 0, 1), ([], (0, 0, 0, 0)), "001011", [], (0, 0, 3, 3))

    def test_end_with_advantage(self):
        for down in (0, 1, 2):
            self.assert_leads_to((2, 6, 0, 0), ([], (0, 0, 3, down)), "0", [], (1, 0, 0, 0))
        self.assert_leads_to((2, 6, 0, 0), ([], (0, 0, 3, 3)), "0", [], (0, 0, 4, 3))
        self.assert_leads_to((2, 6, 0, 0), ([], (0, 0, 4, 3)), "0", [], (1, 0, 0, 0))
        self.assert_leads_to((2, 6, 0, 0), ([], (0, 0, 4, 3)), "1", [], (0, 0, 3, 3))
        self.assert_leads_to((2, 6, 0, 0), ([], (0, 0, 4, 3)), "1101 00 0", [], (1, 0, 0, 0))

    def test_end_without_advantage(self):
        for down in (0, 1, 2, 3):
            self.assert_leads_to((2, 6, 0, 1), ([], (0, 0, 3, down)), "0", [], (1, 0, 0, 0))


class Set(Playing):

    def test_end(self):
        for low in (0, 3, 4):
            self.assert_leads_to((2, 6, 0, 0), ([], (5, low, 3, 0)), "0", [(6, low, 0)], (0, 0, 0, 0))
        self.assert_leads_to((2, 6, 0, 0), ([], (5, 5, 3, 0)), "0", [], (6, 5, 0, 0))
        self.assert_leads_to((2, 6, 0, 0), ([], (6, 5, 3, 0)), "0", [(7, 5, 0)], (0, 0, 0, 0))
        self.assert_leads_to((2, 6, 0, 0), ([], (6, 5, 0, 3)), "1", [], (6, 6, 0, 0))

    def test_games_of_one_another(self):
        self.assert_leads_to((3, 4, 0, 0), ([], (0, 0, 0, 0)), "1111 0000", [], (1, 1, 0, 0))

    def test_second_set_begins_at_0(self):
        self.assert_leads_to((2, 2, 0, 0), ([], (0, 0, 0, 0)), "0" * 8 + "11110", [(2, 0, 0)], (0, 1, 1, 0))


class TieBreak(Playing):

    def test_its_points(self):
        for short in (0, 1):
            rules = (2, 6, 0, short)
            self.assert_leads_to(rules, ([], (6, 6, 0, 0)), "0000", [], (6, 6, 4, 0))
            self.assert_leads_to(rules, ([], (6, 6, 3, 3)), "01", [], (6, 6, 4, 4))
            self.assert_leads_to(rules, ([], (6, 6, 6, 6)), "0", [], (6, 6, 7, 6))
            self.assert_leads_to(rules, ([], (6, 6, 7, 6)), "1101", [], (6, 6, 8, 9))

    def test_end(self):
        for down in range(6):
            self.assert_leads_to((2, 6, 0, 0), ([], (6, 6, 6, down)), "0", [(7, 6, down)], (0, 0, 0, 0))
        for down in (6, 7, 40, 59):
            start = ([], (6, 6, down + 1, down))
            self.assert_leads_to((2, 6, 0, 0), start, "0", [(7, 6, down)], (0, 0, 0, 0))

    def test_past_60_points(self):
        self.assert_leads_to((2, 6, 0, 0), ([], (6, 6, 60, 60)), "01" * 200 + "00", [(7, 6, 60)], (0, 0, 0, 0))

    def test_game_count_of_the_rules(self):
        for each in range(2, 9):
            start = ([], (each, each, 6, 5))
            self.assert_leads_to((2, each, 1, 0), start, "0", [(each + 1, each, 5)], (0, 0, 0, 0))


class DecidingSet(Playing):

    def test_with_a_tie_break(self):
        before = [(6, 4, 0), (4, 6, 0)]
        self.assert_leads_to((2, 6, 0, 0), (before, (5, 6, 3, 0)), "0", before, (6, 6, 0, 0))
        self.assert_ends((2, 6, 0, 0), (before, (6, 6, 0, 0)), "0000000")
        self.assert_ends((1, 6, 0, 0), ([], (6, 6, 7, 6)), "0")

    def test_that_goes_on(self):
        before = [(6, 4, 0), (4, 6, 0)]
        rules = (2, 6, 1, 0)
        self.assert_leads_to(rules, (before, (6, 6, 3, 0)), "0", before, (7, 6, 0, 0))
        self.assert_leads_to(rules, (before, (7, 6, 0, 3)), "1", before, (7, 7, 0, 0))
        self.assert_leads_to(rules, (before, (20, 20, 0, 0)), "0000 1111", before, (21, 21, 0, 0))
        self.assert_ends(rules, (before, (7, 6, 0, 0)), "0000")
        self.assert_ends(rules, (before, (5, 4, 0, 0)), "0000")
        self.assert_ends(rules, (before, (60, 60, 0, 0)), "00000000")

    def test_that_goes_on_for_a_thousand_points(self):
        text = "00001111" * 125
        given = answered(begin(1, 2, 1, 0), points(text), point(0))
        self.assertIsNone(difference(given, [0] * 1001 + [-12]))

    def test_sets_ahead_of_it_have_a_tie_break(self):
        self.assert_leads_to((2, 6, 1, 0), ([(6, 0, 0)], (6, 6, 0, 6)), "1", [(6, 0, 0), (6, 7, 0)], (0, 0, 0, 0))
        before = [(6, 0, 0), (6, 0, 0), (0, 6, 0)]
        self.assert_leads_to((3, 6, 1, 0), (before, (6, 6, 0, 6)), "1", before + [(6, 7, 0)], (0, 0, 0, 0))


class Match(Playing):

    def test_end(self):
        self.assert_ends((1, 6, 0, 0), ([], (5, 0, 3, 0)), "0")
        self.assert_ends((1, 6, 0, 1), ([], (5, 0, 3, 3)), "0")
        self.assert_ends((2, 6, 0, 0), ([(6, 0, 0)], (5, 4, 0, 0)), "0000")
        self.assert_ends((2, 6, 0, 0), ([(0, 6, 0)], (5, 4, 3, 0)), "0" * 25)
        self.assert_ends((3, 2, 0, 0), ([], (0, 0, 0, 0)), "0" * 24)

    def test_end_by_the_other_one(self):
        self.assertEqual(answered(begin(1, 2), points("1" * 9)), [0] * 8 + [1, -17])
        self.assertEqual(answered(begin(2, 2), told([(2, 0, 0)]), points("1" * 17)), [0] * 17 + [1, -17])

    def test_goes_on_at_a_set_each(self):
        self.assert_leads_to((2, 6, 0, 0), ([(0, 6, 0)], (5, 4, 3, 0)), "0", [(0, 6, 0), (6, 4, 0)], (0, 0, 0, 0))
        before = [(6, 0, 0), (0, 6, 0), (0, 6, 0)]
        self.assert_leads_to((3, 6, 0, 0), (before, (5, 4, 3, 0)), "0", before + [(6, 4, 0)], (0, 0, 0, 0))


if __name__ == "__main__":
    unittest.main()
