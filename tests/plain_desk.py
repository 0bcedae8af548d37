"""A desk that is slow and plain: it plays all points from the told score again whenever it is asked something.

Its scores are written as (sets, games, games, points, points), sets a tuple of triples. It shares nothing with the
program, so that the tests can hold one against the other.
"""


def set_count(score, who):
    return sum(1 for one in score[0] if (one[0] < one[1]) == (who == 1))


def is_over(rules, score):
    return max(set_count(score, 0), set_count(score, 1)) == rules[0]


def step(rules, score, who):
    """The score behind one more point, told as if who were the first player."""
    if who == 1:
        return mirrored(step(rules, mirrored(score), 0))
    sets, games, size, long, short = score[0], rules[1], rules[0], rules[2], rules[3]
    mine, theirs, up, down = score[1], score[2], score[3] + 1, score[4]
    deciding = set_count(score, 0) == set_count(score, 1) == size - 1
    if mine == theirs == games and not (deciding and long):
        if up < 7 or up < down + 2:
            return (sets, mine, theirs, up, down)
        return (sets + ((mine + 1, theirs, down),), 0, 0, 0, 0)
    if up < 4 or (not short and up < down + 2):
        return (sets, mine, theirs, 3, 3) if up == down == 4 else (sets, mine, theirs, up, down)
    mine += 1
    if mine < games or mine < theirs + 2:
        return (sets, mine, theirs, 0, 0)
    return (sets + ((mine, theirs, 0),), 0, 0, 0, 0)


def mirrored(score):
    sets = tuple((one[1], one[0], one[2]) for one in score[0])
    return (sets, score[2], score[1], score[4], score[3])


START = ((), 0, 0, 0, 0)


def reachable(rules, most):
    """All scores that points lead to from the beginning without a number above most on the way."""
    found = {START}
    waiting = [START]
    while waiting:
        score = waiting.pop()
        if is_over(rules, score):
            continue
        for who in (0, 1):
            after = step(rules, score, who)
            if max(after[1:]) <= most and after not in found:
                found.add(after)
                waiting.append(after)
    return found


class PlainDesk:

    def __init__(self):
        self.rules = None
        self.start = START
        self.won = []

    def played(self, won):
        """The score that these points make of the told one, or None if the match is over before the last."""
        score = self.start
        for who in won:
            if is_over(self.rules, score):
                return None
            score = step(self.rules, score, who)
        return score

    def begin(self, sets, games, long, short):
        if sets not in (1, 2, 3) or games not in (2, 3, 4, 5, 6, 7, 8):
            return -22
        self.rules = (sets, games, min(long, 1), min(short, 1))
        self.start, self.won = START, []
        return 0

    def told(self, score, can_be):
        """can_be: whether the score is one that points lead to, which the test knows."""
        if self.rules is None:
            return -61
        if not can_be:
            return -33
        self.start, self.won = score, []
        return 0

    def point(self, who):
        if self.rules is None:
            return -61
        if who > 1:
            return -22
        if is_over(self.rules, self.played(self.won)):
            return -17
        if len(self.won) == 1000:
            return -12
        self.won = self.won + [who]
        return int(is_over(self.rules, self.played(self.won)))

    def back(self):
        if not self.won:
            return -2
        self.won = self.won[:-1]
        return len(self.won)

    def right(self, k):
        if len(self.won) <= k:
            return -2
        won = list(self.won)
        won[-1 - k] = 1 - won[-1 - k]
        if self.played(won) is None:
            return -33
        self.won = won
        return 0
