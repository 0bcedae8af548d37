"""A desk that is slow and plain: it plays all points from the told score again whenever it is asked something.

Its scores are written as (sets, games, games, points, points), sets a tuple of triples. It shares nothing with the
program, so that the tests can hold one against the other.
"""


def set_count(score, who):
    return sum(1 for one in score[0] if (one[0] < one[1]) == (who == 1))


def is_over(rules, score):
    return max(set_count(score, 0), set_count(score, 1)) == rules[0]


def step(rules, score, who):
    """The score behind one more point, told as if who were the first player."""
    if who == 1:
        return mirrored(step(rules, mirrored(score), 0))
    sets, games, size, long, short = score[0], rules[1], rules[0], rules[2], rules[3]
    mine, theirs, up, down = score[1], score[2], score[3] + 1, score[4]
    deciding = set_count(score, 0) == set_count(score, 1) == size - 1
    if mine == theirs == games and not (deciding and long):
        if up < 7 or up < down + 2:
            return (sets, mine, theirs, up, down)
        return (sets + ((mine + 1, theirs, down),), 0, 0, 0, 0)
    if up < 4 or (not short and up < down + 2):
        return (sets, mine, theirs, 3, 3) if up == down == 4 else (sets, mine, theirs, up, down)
    mine += 1
    if mine < games or mine < theirs + 2:
        return (sets, mine, theirs, 0, 0)
    return (sets + ((mine, theirs, 0),), 0, 0, 0, 0)


def mirrored(score):
    sets = tuple((one[1], one[0], one[2]) for one in score[0])
    return (sets, score[2], score[1], score[4], score[3])


def is_tie_break(rules, score):
    deciding = set_count(score, 0) == set_count(score, 1) == rules[0] - 1
    return score[1] == score[2] == rules[1] and not (deciding and rules[2])


def text(rules, score):
    written = ""
    for first, other, loser in score[0]:
        written += str(first) + "-" + str(other)
        if sorted((first, other)) == [rules[1], rules[1] + 1]:
            written += "(" + str(loser) + ")"
        written += " "
    if is_over(rules, score):
        return written[:-1]
    names = {0: "0", 1: "15", 2: "30", 3: "40", 4: "A"}
    if is_tie_break(rules, score):
        names = {number: str(number) for number in range(2000)}
    return written + str(score[1]) + "-" + str(score[2]) + " " + names[score[3]] + "-" + names[score[4]]


class Court:
    """Who serves and whether ends have been changed, turned by what happens, one game or point behind another."""

    def __init__(self):
        self.server = 0
        self.ends = 0

    def play_games(self, first, last):
        for game in range(first, last + 1):
            self.server = 1 - self.server
            if game % 2 == 1:
                self.ends = 1 - self.ends

    def change_ends_in_tie_break(self, points):
        for played in range(1, points + 1):
            if played % 6 == 0:
                self.ends = 1 - self.ends


def serving(rules, score):
    court = Court()
    for first, other, loser in score[0]:
        if sorted((first, other)) == [rules[1], rules[1] + 1]:
            court.change_ends_in_tie_break(loser + max(7, loser + 2) - 1)
        court.play_games(1, first + other)
    court.play_games(1, score[1] + score[2])
    server = court.server
    if is_tie_break(rules, score):
        court.change_ends_in_tie_break(score[3] + score[4])
        turns = [server] + [1 - server, 1 - server, server, server] * 500
        server = turns[score[3] + score[4]]
    return server + 2 * court.ends


START = ((), 0, 0, 0, 0)


def reachable(rules, most):
    """All scores that points lead to from the beginning without a number above most on the way."""
    found = {START}
    waiting = [START]
    while waiting:
        score = waiting.pop()
        if is_over(rules, score):
            continue
        for who in (0, 1):
            after = step(rules, score, who)
            if max(after[1:]) <= most and after not in found:
                found.add(after)
                waiting.append(after)
    return found


class PlainDesk:

    def __init__(self):
        self.rules = None
        self.start = START
        self.won = []

    def played(self, won):
        """The score that these points make of the told one, or None if the match is over before the last."""
        score = self.start
        for who in won:
            if is_over(self.rules, score):
                return None
            score = step(self.rules, score, who)
        return score

    def begin(self, sets, games, long, short):
        if sets not in (1, 2, 3) or games not in (2, 3, 4, 5, 6, 7, 8):
            return -22
        self.rules = (sets, games, min(long, 1), min(short, 1))
        self.start, self.won = START, []
        return 0

    def told(self, score, can_be):
        """can_be: whether the score is one that points lead to, which the test knows."""
        if self.rules is None:
            return -61
        if len(score[0]) > 5 or max(max(part) for part in (*score[0], score[1:])) > 60:
            return -71
        if not can_be:
            return -33
        self.start, self.won = score, []
        return 0

    def point(self, who):
        if self.rules is None:
            return -61
        if who > 1:
            return -22
        if is_over(self.rules, self.played(self.won)):
            return -17
        if len(self.won) == 1000:
            return -12
        self.won = self.won + [who]
        return int(is_over(self.rules, self.played(self.won)))

    def back(self):
        if not self.won:
            return -2
        self.won = self.won[:-1]
        return len(self.won)

    def right(self, k):
        if len(self.won) <= k:
            return -2
        won = list(self.won)
        won[-1 - k] = 1 - won[-1 - k]
        if self.played(won) is None:
            return -33
        self.won = won
        return 0

    def score(self):
        if self.rules is None:
            return -61
        written = text(self.rules, self.played(self.won))
        return (len(written), *written.encode("ascii"))

    def serving(self):
        if self.rules is None:
            return -61
        score = self.played(self.won)
        return -17 if is_over(self.rules, score) else serving(self.rules, score)

    def need(self, who):
        if self.rules is None:
            return -61
        if who > 1:
            return -22
        score = self.played(self.won)
        needed = 0
        while not is_over(self.rules, score):
            score = step(self.rules, score, who)
            needed += 1
        return needed or -17

    def count(self):
        if self.rules is None:
            return -61
        score = self.played(self.won)
        first = sum(1 for who in self.won if who == 0)
        return (len(self.won), first, set_count(score, 0), set_count(score, 1))
