"""What is read off a score: its text, who serves the next point and at which ends, and what somebody needs to win."""

from pointdesk.score import LEAD, TIE_BREAK_POINTS, after_point, in_tie_break, match_over

POINT_TEXTS = ("0", "15", "30", "40", "A")
POINTS_TO_AN_ENDS_CHANGE = 6


def score_text(rules, score):
    parts = [set_text(ended) for ended in score.done]
    if not match_over(rules, score):
        parts.append(pair_text(score.games))
        parts.append(points_text(rules, score))
    return " ".join(parts)


def set_text(ended):
    games = pair_text(ended)
    if not won_by_tie_break(ended):
        return games
    loser_points = ended[2]
    return f"{games}({loser_points})"


def pair_text(pair):
    first = pair[0]
    other = pair[1]
    return f"{first}-{other}"


def points_text(rules, score):
    if in_tie_break(rules, score):
        return pair_text(score.points)
    return pair_text([POINT_TEXTS[points] for points in score.points])


def won_by_tie_break(ended):
    """Whether a tie break decided this set; else whoever wins a set has two games more."""
    return abs(ended[0] - ended[1]) < LEAD


def server(rules, score):
    """Who serves the next point of a match that goes on: 0 or 1."""
    turns = sum(score.games) + sum([ended[0] + ended[1] for ended in score.done])
    if in_tie_break(rules, score):
        # The first turn of a tie break is one point, each later one two: turns end behind 1, 3, 5 .. points.
        turns = turns + (sum(score.points) + 1) // 2
    return turns % 2


def ends_changed(rules, score):
    """Whether ends have been changed an odd number of times when the next point of a match that goes on is played."""
    changes = changes_behind_games(sum(score.games))
    if in_tie_break(rules, score):
        changes = changes + sum(score.points) // POINTS_TO_AN_ENDS_CHANGE
    for ended in score.done:
        changes = changes + changes_behind_games(ended[0] + ended[1])
        if won_by_tie_break(ended):
            changes = changes + changes_within_tie_break(ended[2])
    return changes % 2 == 1


def changes_behind_games(played):
    """How often ends are changed behind so many games of a set: behind the first, the third, the fifth .."""
    return (played + 1) // 2


def changes_within_tie_break(loser_points):
    """How often ends were changed within a tie break that is over: never behind its last point."""
    winner_points = max(TIE_BREAK_POINTS, loser_points + LEAD)
    return (winner_points + loser_points - 1) // POINTS_TO_AN_ENDS_CHANGE


def points_needed(rules, score, who):
    """How many points in a row who needs to win the match, counted by playing them."""
    needed = 0
    while not match_over(rules, score):
        score = after_point(rules, score, who)
        needed = needed + 1
    return needed
