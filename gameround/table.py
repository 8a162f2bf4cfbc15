"""The table of a season, made of its results."""

from gameround.errors import NoGame, ToldTwice
from gameround.plan import at_home


def is_there(count, team):
    return 0 <= team < count


def has_game(count, legs, home, away):
    if home == away or not is_there(count, home) or not is_there(count, away):
        return False
    leg = 1 if at_home(count, home, away) == home else 2
    return leg <= legs


def refuse_wrong(count, legs, results):
    told = {}
    # The words name the result by its index, not its teams: Python won't write out a number of any length.
    for index, result in enumerate(results):
        home = result[0]
        away = result[1]
        if not has_game(count, legs, home, away):
            raise NoGame(f"results[{index}]: the season has no such game")
        if (home, away) in told:
            raise ToldTwice(f"results[{index}]: this game has a result already")
        told[(home, away)] = True


def points_for(own, others):
    if own > others:
        return 3
    return 1 if own == others else 0


def marks_of(count, results):
    points = [0] * count
    leads = [0] * count
    goals = [0] * count
    for home, away, left, right in results:
        for team, own, others in ((home, left, right), (away, right, left)):
            points[team] += points_for(own, others)
            leads[team] += own - others
            goals[team] += own
    return [(points[team], leads[team], goals[team]) for team in range(count)]


def table(count, legs, results):
    refuse_wrong(count, legs, results)
    # Marks stand in the order in which they weigh, so the greater tuple is the better team.
    marks = marks_of(count, results)
    rows = []
    for team, own in enumerate(marks):
        better = [other for other in marks if other > own]
        rows.append((len(better) + 1, team, own[0], own[1], own[2]))
    # Rows begin with place and team, which is the order asked for.
    return sorted(rows)
