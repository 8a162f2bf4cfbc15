"""The points of the document, told as plainly and slowly as its words do, to hold the program against."""

COUNTS = (2, 3, 4, 5, 6, 7, 8, 9, 10, 11, 12, 13, 25, 26, 49, 50, 99, 100)
SMALL_COUNTS = (2, 3, 4, 5, 6, 7, 8, 9, 16, 17)


def leg_days(count):
    return count if count % 2 else count - 1


def pairs(count):
    return [(low, high) for low in range(count) for high in range(low + 1, count)]


def met_on(count, day):
    """The pairs (lower, higher) that meet on a day, in order (points 3, 4)."""
    days = leg_days(count)
    met = []
    for low, high in pairs(count):
        weight = 2 * low if high == days else low + high
        if weight % days == day % days:
            met.append((low, high))
    return met


def first_leg_game(count, low, high):
    """The game of two teams in the first leg, low < high (point 5)."""
    if high == leg_days(count):
        low_at_home = low % 2 == 0
    else:
        low_at_home = (high - low) % 2 == 1
    return (low, high) if low_at_home else (high, low)


def day_games(count, day):
    """The games of a day of the first leg or the second (points 3 to 6)."""
    games = [first_leg_game(count, low, high) for low, high in met_on(count, day)]
    if day >= leg_days(count):
        games = [(away, home) for home, away in games]
    return games


def season_games(count, legs):
    games = [first_leg_game(count, low, high) for low, high in pairs(count)]
    if legs == 2:
        games += [(away, home) for home, away in games]
    return games


def table_of(count, results):
    """The table of results that all are in order (points 10, 11)."""
    marks = []
    for team in range(count):
        own = [(left, right) for home, away, left, right in results if home == team]
        own += [(right, left) for home, away, left, right in results if away == team]
        points = 3 * len([1 for got, lost in own if got > lost]) + len([1 for got, lost in own if got == lost])
        marks.append((points, sum(got for got, lost in own) - sum(lost for got, lost in own),
                      sum(got for got, lost in own)))
    rows = []
    for team in range(count):
        place = 1 + len([1 for other in range(count) if is_better(marks[other], marks[team])])
        rows.append((place, team) + marks[team])
    return sorted(rows, key=lambda row: (row[0], row[1]))


def is_better(one, other):
    if one[0] != other[0]:
        return one[0] > other[0]
    if one[1] != other[1]:
        return one[1] > other[1]
    return one[2] > other[2]


def made_results(count, legs, step=1, most=5):
    """Results of every step-th game of a season, with goals that vary but are the same each time."""
    games = season_games(count, legs)[::step]
    return [(home, away, (home * 7 + away * 3) % most, (home * 2 + away * 5 + 1) % most) for home, away in games]
