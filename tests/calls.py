"""How the tests write calls as numbers, and read what is answered."""

from pointdesk.desk import answers

LARGEST = 4294967295


def begin(sets=2, games=6, long=0, short=0):
    return [0, sets, games, long, short]


def told(done, now=(0, 0, 0, 0)):
    """done: a row of triples, one for each set that is over."""
    numbers = [number for one in done for number in one]
    return [1, len(numbers), *numbers, len(now), *now]


def point(who):
    return [2, who]


def points(text):
    """A point for each sign of the text, 0 or 1 by who wins it; blanks are for the eye."""
    return [point(int(sign)) for sign in text if sign != " "]


def games(text, size=4):
    """A game to love for each sign of the text."""
    return points("".join(sign * size for sign in text if sign != " "))


def back():
    return [3]


def right(k):
    return [4, k]


def answered(*calls):
    """The answer to each call on one new desk; a list of calls stands for the calls in it."""
    line = []
    for one in calls:
        for call in [one] if one and isinstance(one[0], int) else one:
            line.extend(call)
    return read(answers(line))


def read(given):
    """The answers, which are one number each."""
    found = []
    place = 0
    while place < len(given):
        if given[place] != 1:
            raise AssertionError(f"{given[place]} numbers where 1 is asked")
        found.append(given[place + 1])
        place += 2
    return found


STARTS = ("", "0", "1", "01", "10", "0101", "1010", "010101", "101010")
PROBES = [start + who * 150 for start in STARTS for who in "01"]


def standing(*calls):
    """What tells the score behind the calls from others: how the match ends from there, played in several ways."""
    before = len(answered(*calls))
    return [answered(*calls, points(probe))[before:] for probe in PROBES]
