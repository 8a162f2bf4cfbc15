"""A season: points 2 to 7; one team over the first leg: points 2 to 4."""

import unittest

from gameround.plan import days_of, games_on, partner
from tests.bywords import COUNTS, SMALL_COUNTS, day_games, first_leg_game, leg_days, pairs


def each_season(counts=COUNTS):
    for count in counts:
        for legs in (1, 2):
            yield count, legs, days_of(count, legs)


class Season(unittest.TestCase):
    def test_seasons_told_by_hand(self):
        self.assertEqual(days_of(2, 1), [[(0, 1)]])
        self.assertEqual(days_of(2, 2), [[(0, 1)], [(1, 0)]])
        self.assertEqual(days_of(3, 1), [[(1, 2)], [(0, 1)], [(2, 0)]])
        self.assertEqual(days_of(3, 2), [[(1, 2)], [(0, 1)], [(2, 0)], [(2, 1)], [(1, 0)], [(0, 2)]])
        self.assertEqual(days_of(4, 1), [[(0, 3), (1, 2)], [(0, 1), (2, 3)], [(2, 0), (3, 1)]])

    def test_the_number_of_days(self):
        for count, legs, season in each_season():
            self.assertEqual(len(season), legs * (count if count % 2 else count - 1), (count, legs))

    def test_each_day_as_the_words_say(self):
        for count, legs, season in each_season(SMALL_COUNTS):
            expected = [day_games(count, day) for day in range(legs * leg_days(count))]
            self.assertEqual(season, expected, (count, legs))

    def test_each_day_as_it_is_told_alone(self):
        for count, legs, season in each_season():
            self.assertEqual(season, [games_on(count, day) for day in range(len(season))], (count, legs))

    def test_who_is_at_home_in_the_first_leg(self):
        for count, legs, season in each_season():
            for day in season[:leg_days(count)]:
                for game in day:
                    self.assertEqual(game, first_leg_game(count, min(game), max(game)), (count, legs))

    def test_the_second_leg_is_the_first_the_other_way_round(self):
        for count in COUNTS:
            season = days_of(count, 2)
            first = days_of(count, 1)
            self.assertEqual(season[:leg_days(count)], first, count)
            turned = [[(away, home) for home, away in day] for day in first]
            self.assertEqual(season[leg_days(count):], turned, count)

    def test_in_each_leg_each_two_meet_once(self):
        for count, legs, season in each_season():
            days = leg_days(count)
            for leg in range(legs):
                met = [tuple(sorted(game)) for day in season[leg * days:(leg + 1) * days] for game in day]
                self.assertEqual(sorted(met), pairs(count), (count, leg))

    def test_games_at_home_and_away(self):
        for count, legs, season in each_season():
            for team in range(count):
                home = len([1 for day in season for game in day if game[0] == team])
                away = len([1 for day in season for game in day if game[1] == team])
                self.assertEqual(home + away, legs * (count - 1), (count, legs, team))
                self.assertEqual(abs(home - away), (home + away) % 2, (count, legs, team))

    def test_kinds(self):
        for count, legs, season in each_season(SMALL_COUNTS):
            self.assertIs(type(season), list)
            for day in season:
                self.assertIs(type(day), list)
                for game in day:
                    self.assertIs(type(game), tuple)
                    self.assertEqual([type(team) for team in game], [int, int])

    def test_beyond_the_bounds(self):
        self.assertEqual(days_of(0, 1), [])
        self.assertEqual(days_of(1, 1), [[]])
        self.assertEqual(days_of(1, 2), [[], []])
        self.assertEqual(days_of(103, 2), [day_games(103, day) for day in range(206)])
        self.assertEqual(days_of(104, 1), [day_games(104, day) for day in range(103)])


class OneTeam(unittest.TestCase):
    def test_all_others_once_over_the_first_leg(self):
        for count in COUNTS:
            for team in range(count):
                with self.subTest(count=count, team=team):
                    met = [partner(count, day, team) for day in range(leg_days(count))]
                    others = [other for other in range(count) if other != team]
                    self.assertEqual(sorted(other for other in met if other is not None), others)
                    self.assertEqual(met.count(None), count % 2)

    def test_the_second_leg_has_the_same_partners(self):
        for count in SMALL_COUNTS:
            days = leg_days(count)
            for team in range(count):
                for day in range(days):
                    self.assertEqual(partner(count, days + day, team), partner(count, day, team))


if __name__ == "__main__":
    unittest.main()
