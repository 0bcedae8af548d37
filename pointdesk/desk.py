"""The desk: the calls on it, and the lists of numbers in which they are handed in and answered."""

from pointdesk.reading import ends_changed, points_needed, score_text, server
from pointdesk.score import Rules, after_point, first_score, match_over
from pointdesk.telling import told_score

BEGIN = 0
TOLD = 1
POINT = 2
BACK = 3
RIGHT = 4
SCORE = 5
NEXT = 6
NEED = 7

# How many numbers a call has, its own number among them; told tells by itself how many it has.
CALL_LENGTHS = {0: 5, 2: 2, 3: 1, 4: 2, 5: 1, 6: 1, 7: 2, 8: 1}

NO_SUCH_POINT = -2
TOO_MANY_POINTS = -12
MATCH_IS_OVER = -17
OUT_OF_RANGE = -22
CANNOT_BE = -33
NO_RULES = -61
TOLD_TOO_MUCH = -71

MOST_SETS_TO_WIN = 3
LEAST_GAMES = 2
MOST_GAMES = 8
MOST_POINTS = 1000
MOST_SETS_TOLD = 5
MOST_TOLD = 60
CHANGED_ENDS = 2


class Desk:
    """The desk of one match; a refusal is answered by a number below 0 and leaves all as it was.

    All but begin, back and right are asked only where there are rules: answer_to sees to that.

    winners tells of each point who won it. scores has one score more: the one told at first, then the one behind
    each point, so that a point is taken back without playing all others again.
    """

    def __init__(self):
        self.rules = None
        self.winners = []
        self.scores = []

    def begin(self, sets, games, long, short):
        if sets < 1 or sets > MOST_SETS_TO_WIN or games < LEAST_GAMES or games > MOST_GAMES:
            return OUT_OF_RANGE
        self.rules = Rules(sets, games, 0 if long == 0 else 1, 0 if short == 0 else 1)
        self.go_on_from(first_score())
        return 0

    def go_on_from(self, score):
        self.winners = []
        self.scores = [score]

    def told(self, done, now):
        if len(done) > 3 * MOST_SETS_TOLD or max(done + now) > MOST_TOLD:
            return TOLD_TOO_MUCH
        score = told_score(self.rules, done, now)
        if score is None:
            return CANNOT_BE
        self.go_on_from(score)
        return 0

    def point(self, who):
        if who > 1:
            return OUT_OF_RANGE
        if match_over(self.rules, self.scores[-1]):
            return MATCH_IS_OVER
        if len(self.winners) >= MOST_POINTS:
            return TOO_MANY_POINTS
        self.winners.append(who)
        self.scores.append(after_point(self.rules, self.scores[-1], who))
        return 1 if match_over(self.rules, self.scores[-1]) else 0

    def back(self):
        if len(self.winners) == 0:
            return NO_SUCH_POINT
        self.winners.pop()
        self.scores.pop()
        return len(self.winners)

    def right(self, k):
        if len(self.winners) <= k:
            return NO_SUCH_POINT
        place = len(self.winners) - 1 - k
        later = [1 - self.winners[place]] + self.winners[place + 1:]
        scores = self.scores[:place + 1]
        for who in later:
            if match_over(self.rules, scores[-1]):
                return CANNOT_BE
            scores.append(after_point(self.rules, scores[-1], who))
        self.winners = self.winners[:place] + later
        self.scores = scores
        return 0

    def score(self):
        """How many bytes the score's text has, then these."""
        text = score_text(self.rules, self.scores[-1])
        return [len(text)] + [ord(sign) for sign in text]

    def serving(self):
        score = self.scores[-1]
        if match_over(self.rules, score):
            return MATCH_IS_OVER
        return server(self.rules, score) + (CHANGED_ENDS if ends_changed(self.rules, score) else 0)

    def need(self, who):
        if who > 1:
            return OUT_OF_RANGE
        if match_over(self.rules, self.scores[-1]):
            return MATCH_IS_OVER
        return points_needed(self.rules, self.scores[-1], who)

    def counts(self):
        """How many points there are, how many of them the first player won, then the sets of both."""
        return [len(self.winners), self.winners.count(0)] + list(self.scores[-1].won)


def call_length(calls, place):
    """How many numbers the call that begins at place has."""
    if calls[place] != TOLD:
        return CALL_LENGTHS[calls[place]]
    now_place = 2 + calls[place + 1]
    return now_place + 1 + calls[place + now_place]


def answer_to(desk, call):
    """The numbers that the desk answers to one call, which is written as numbers."""
    if desk.rules is None and call[0] not in (BEGIN, BACK, RIGHT):
        return [NO_RULES]
    if call[0] == BEGIN:
        return [desk.begin(call[1], call[2], call[3], call[4])]
    if call[0] == TOLD:
        now_place = 2 + call[1]
        return [desk.told(call[2:now_place], call[now_place + 1:])]
    if call[0] == POINT:
        return [desk.point(call[1])]
    if call[0] == BACK:
        return [desk.back()]
    if call[0] == RIGHT:
        return [desk.right(call[1])]
    if call[0] == SCORE:
        return desk.score()
    if call[0] == NEXT:
        return [desk.serving()]
    if call[0] == NEED:
        return [desk.need(call[1])]
    # It is count: call_length knows no other number.
    return desk.counts()


def answers(calls):
    """What a new desk answers to the calls in this list: of each how many numbers, then these."""
    desk = Desk()
    given = []
    place = 0
    while place < len(calls):
        length = call_length(calls, place)
        answer = answer_to(desk, calls[place:place + length])
        given.append(len(answer))
        given.extend(answer)
        place = place + length
    return given
