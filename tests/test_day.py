"""A day: points 2 to 4 and 6."""

import unittest

from gameround.plan import games_on, partner
from tests.bywords import COUNTS, day_games, leg_days, met_on


def some_days(count):
    days = leg_days(count)
    return sorted({0, 1 % days, days // 2, days - 1, days, days + 1 % days, days + days // 2, 2 * days - 1})


def each_day():
    for count in COUNTS:
        for day in some_days(count):
            yield count, day, games_on(count, day)


class Day(unittest.TestCase):
    def test_days_told_by_hand(self):
        self.assertEqual(games_on(2, 0), [(0, 1)])
        self.assertEqual(games_on(2, 1), [(1, 0)])
        self.assertEqual(games_on(3, 0), [(1, 2)])
        self.assertEqual(games_on(3, 2), [(2, 0)])
        self.assertEqual(games_on(3, 5), [(0, 2)])
        self.assertEqual(games_on(4, 0), [(0, 3), (1, 2)])
        self.assertEqual(games_on(4, 1), [(0, 1), (2, 3)])
        self.assertEqual(games_on(4, 2), [(2, 0), (3, 1)])
        self.assertEqual(games_on(4, 3), [(3, 0), (2, 1)])
        self.assertEqual(games_on(5, 0), [(1, 4), (2, 3)])
        self.assertEqual(games_on(5, 4), [(4, 0), (3, 1)])

    def test_as_many_games_as_half_the_teams(self):
        for count, day, games in each_day():
            self.assertEqual(len(games), count // 2, (count, day))

    def test_nobody_plays_twice(self):
        for count, day, games in each_day():
            teams = [team for game in games for team in game]
            self.assertEqual(len(teams), len(set(teams)), (count, day))

    def test_games_in_the_order_of_the_lower_number(self):
        for count, day, games in each_day():
            lower = [min(game) for game in games]
            self.assertEqual(lower, sorted(lower), (count, day))

    def test_just_those_meet_whose_numbers_meet(self):
        for count, day, games in each_day():
            self.assertEqual([tuple(sorted(game)) for game in games], met_on(count, day), (count, day))

    def test_the_games_with_the_team_at_home_first(self):
        for count, day, games in each_day():
            self.assertEqual(games, day_games(count, day), (count, day))

    def test_partner_agrees_from_both_sides(self):
        for count, day, games in each_day():
            met = {home: away for home, away in games}
            met.update({away: home for home, away in games})
            self.assertEqual([partner(count, day, team) for team in range(count)],
                             [met.get(team) for team in range(count)], (count, day))

    def test_one_rests_where_the_number_is_odd(self):
        for count, day, games in each_day():
            resting = [team for team in range(count) if partner(count, day, team) is None]
            days = leg_days(count)
            alone = [team for team in range(count) if 2 * team % days == day % days]
            self.assertEqual(resting, alone if count % 2 else [], (count, day))

    def test_kinds(self):
        for count, day, games in each_day():
            self.assertIs(type(games), list)
            for game in games:
                self.assertIs(type(game), tuple)
                self.assertEqual([type(team) for team in game], [int, int])
            for team in range(count):
                self.assertIn(type(partner(count, day, team)), (int, type(None)))

    def test_each_answer_is_a_list_of_its_own(self):
        games = games_on(6, 1)
        games.clear()
        self.assertEqual(games_on(6, 1), day_games(6, 1))


class BeyondTheBounds(unittest.TestCase):
    def test_more_than_a_hundred_teams(self):
        for count in (101, 102, 120, 151):
            for day in some_days(count):
                self.assertEqual(games_on(count, day), day_games(count, day), (count, day))

    def test_one_team_rests(self):
        self.assertEqual(games_on(1, 0), [])
        self.assertIsNone(partner(1, 0, 0))

    def test_no_team(self):
        self.assertEqual(games_on(0, 0), [])


if __name__ == "__main__":
    unittest.main()
