"""The rules of a match, its score, and what a point makes of the score."""

GAME_POINTS = 4
TIE_BREAK_POINTS = 7
LEAD = 2


class Rules:
    """What a match is played by; long and short are 0 or 1."""

    def __init__(self, sets, games, long, short):
        self.sets = sets
        self.games = games
        self.long = long
        self.short = short


class Score:
    """A score; its parts are tuples, and pairs tell the first player's number ahead of the other's.

    done has a triple for each set that is over: the games of both, and the points of a tie break's loser, else 0.
    won is how many of these each has won; it follows from done, and is kept so that no point has to count it again.
    Nothing changes a score once it is made, so that scores can be kept and share their parts.
    """

    def __init__(self, done, won, games, points):
        self.done = done
        self.won = won
        self.games = games
        self.points = points


def first_score():
    return Score((), (0, 0), (0, 0), (0, 0))


def match_over(rules, score):
    return rules.sets in score.won


def goes_on_without_tie_break(rules, score):
    """Whether the set that is played is the deciding one, and that one has no tie break."""
    return rules.long == 1 and score.won == (rules.sets - 1, rules.sets - 1)


def in_tie_break(rules, score):
    return score.games == (rules.games, rules.games) and not goes_on_without_tie_break(rules, score)


def one_more(pair, who):
    """The pair once who, 0 or 1, has one more."""
    return (pair[0] + 1, pair[1]) if who == 0 else (pair[0], pair[1] + 1)


def has_won(pair, who, least, lead):
    return pair[who] >= least and pair[who] - pair[1 - who] >= lead


def after_point(rules, score, who):
    """The score once who has won a point; the match is not over before it."""
    points = one_more(score.points, who)
    if in_tie_break(rules, score):
        if has_won(points, who, TIE_BREAK_POINTS, LEAD):
            return after_set(score, one_more(score.games, who), points[1 - who])
        return Score(score.done, score.won, score.games, points)
    if has_won(points, who, GAME_POINTS, 1 if rules.short == 1 else LEAD):
        return after_game(rules, score, who)
    if points == (GAME_POINTS, GAME_POINTS):
        points = (GAME_POINTS - 1, GAME_POINTS - 1)
    return Score(score.done, score.won, score.games, points)


def after_game(rules, score, who):
    """The score once who has won a game that is no tie break."""
    games = one_more(score.games, who)
    if has_won(games, who, rules.games, LEAD):
        return after_set(score, games, 0)
    return Score(score.done, score.won, games, (0, 0))


def after_set(score, games, loser_points):
    """The score once its set has ended by games, with the points of a tie break's loser, else 0."""
    done = score.done + ((games[0], games[1], loser_points),)
    won = one_more(score.won, 0 if games[0] > games[1] else 1)
    return Score(done, won, (0, 0), (0, 0))
