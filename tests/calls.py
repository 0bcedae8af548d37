"""How the tests write calls as numbers, and read what is answered."""

from pointdesk.desk import answers

LARGEST = 4294967295


def begin(sets=2, games=6, long=0, short=0):
    return [0, sets, games, long, short]


def told(done, now=(0, 0, 0, 0)):
    """done: a row of triples, one for each set that is over."""
    numbers = [number for one in done for number in one]
    return [1, len(numbers), *numbers, len(now), *now]


def point(who):
    return [2, who]


def points(text):
    """A point for each sign of the text, 0 or 1 by who wins it; blanks are for the eye."""
    return [point(int(sign)) for sign in text if sign != " "]


def games(text, size=4):
    """A game to love for each sign of the text."""
    return points("".join(sign * size for sign in text if sign != " "))


def back():
    return [3]


def right(k):
    return [4, k]


def score():
    return [5]


def serving():
    """The call next, under a name that Python has not given away."""
    return [6]


def need(who):
    return [7, who]


def count():
    return [8]


def answered(*calls):
    """The answer to each call on one new desk; a list of calls stands for the calls in it."""
    line = []
    for one in calls:
        for call in [one] if one and isinstance(one[0], int) else one:
            line.extend(call)
    return read(answers(line))


def read(given):
    """The answers: a number where one is answered, else a tuple of all of them."""
    found = []
    place = 0
    while place < len(given):
        size = given[place]
        numbers = tuple(given[place + 1:place + 1 + size])
        if size < 1 or len(numbers) != size:
            raise AssertionError(f"{size} numbers told, {len(numbers)} there")
        found.append(numbers[0] if size == 1 else numbers)
        place += 1 + size
    return found


def written(answer):
    """The text in the answer to score."""
    if answer[0] != len(answer) - 1:
        raise AssertionError(f"{answer[0]} bytes told, {len(answer) - 1} there")
    return bytes(answer[1:]).decode("ascii")


def text_behind(*calls):
    return written(answered(*calls, score())[-1])


def difference(given, wanted):
    """None if both lists are the same, else where they part; unittest's own comparison of long lists takes minutes."""
    for place, (one, other) in enumerate(zip(given, wanted)):
        if one != other:
            return (place, one, other)
    return None if len(given) == len(wanted) else (len(given), len(wanted))


STARTS = ("", "0", "1", "01", "10", "0101", "1010", "010101", "101010")
PROBES = [start + who * 150 for start in STARTS for who in "01"]


def standing(*calls):
    """What tells the score behind the calls from others: how the match ends from there, played in several ways."""
    before = len(answered(*calls))
    return [answered(*calls, points(probe))[before:] for probe in PROBES]
