"""A score that somebody tells: whether it can come about, and which one it is."""

from pointdesk.score import (
    GAME_POINTS, LEAD, TIE_BREAK_POINTS, Score,
    after_set, first_score, goes_on_without_tie_break, in_tie_break, match_over,
)


def told_score(rules, done, now):
    """The score that is told, or None if no points lead to it.

    done has three numbers for each set that is over, now the games and the points of the set that goes on.
    """
    score = score_of_sets(rules, done)
    if score is None:
        return None
    if match_over(rules, score):
        return score if now == [0, 0, 0, 0] else None
    if not games_can_be(rules, score, now[0], now[1]):
        return None
    score = Score(score.done, score.won, (now[0], now[1]), (now[2], now[3]))
    return score if points_can_be(rules, score) else None


def score_of_sets(rules, done):
    """The score at the end of the last set in done, or None if these sets can't come about."""
    score = first_score()
    for place in range(0, len(done), 3):
        games = (done[place], done[place + 1])
        loser_points = done[place + 2]
        if match_over(rules, score) or not set_can_end(rules, score, games, loser_points):
            return None
        score = after_set(score, games, loser_points)
    return score


def set_can_end(rules, score, games, loser_points):
    """Whether the set behind score can end by these games and these points of a tie break's loser."""
    high = max(games)
    low = min(games)
    endless = goes_on_without_tie_break(rules, score)
    if high == rules.games + 1 and low == rules.games and not endless:
        # Whatever the loser has, the winner can have 7 or 2 more than that.
        return True
    if loser_points != 0:
        return False
    if high == rules.games:
        return high - low >= LEAD
    # A set that went past its games was close until its last game.
    return high - low == LEAD and high > rules.games and (endless or high == rules.games + 1)


def games_can_be(rules, score, first, other):
    """Whether the set behind score can stand at these games and go on."""
    high = max(first, other)
    if high < rules.games:
        return True
    close = abs(first - other) < LEAD
    return close and (high == rules.games or goes_on_without_tie_break(rules, score))


def points_can_be(rules, score):
    """Whether the points of score can come about in the game or tie break that its games lead to."""
    high = max(score.points)
    low = min(score.points)
    if in_tie_break(rules, score):
        return high < TIE_BREAK_POINTS or high - low < LEAD
    if high < GAME_POINTS:
        return True
    # Both at 4 is out: these points are 3 for both again.
    return rules.short == 0 and high == GAME_POINTS and low == GAME_POINTS - 1
