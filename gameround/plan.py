"""The plan of a season: who meets whom on which day, and at whose place."""


def days_in_leg(count):
    return count if count % 2 == 1 else count - 1


def last_team(count):
    return count - 1 if count % 2 == 0 else None


def single_in_ring(count, day):
    days = days_in_leg(count)
    # The days of a leg are odd in number, so this half undoes a doubling among the remainders.
    half = (days + 1) // 2
    return day * half % days


def partner(count, day, team):
    last = last_team(count)
    if team == last:
        return single_in_ring(count, day)
    other = (day - team) % days_in_leg(count)
    # Who would meet itself meets the last team; without a last team this is None: it rests.
    return last if other == team else other


def meeting_day(count, one, other):
    lower = min(one, other)
    higher = max(one, other)
    if higher == last_team(count):
        return 2 * lower % days_in_leg(count)
    return (lower + higher) % days_in_leg(count)


def at_home(count, one, other):
    lower = min(one, other)
    higher = max(one, other)
    if higher == last_team(count):
        return lower if lower % 2 == 0 else higher
    return lower if (higher - lower) % 2 == 1 else higher


def game_of(count, day, one, other):
    home = at_home(count, one, other)
    away = other if home == one else one
    in_second_leg = day // days_in_leg(count) == 1
    return (away, home) if in_second_leg else (home, away)


def games_on(count, day):
    games = []
    for team in range(count):
        other = partner(count, day, team)
        # Each game is met from both sides; taking it from the lower one gives the order too.
        if other is not None and team < other:
            games.append(game_of(count, day, team, other))
    return games


def days_of(count, legs):
    return [games_on(count, day) for day in range(legs * days_in_leg(count))]
