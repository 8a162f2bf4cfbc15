"""Refusals: points 8 and 9."""

import copy
import unittest

from gameround.errors import NoGame, SeasonError, ToldTwice
from gameround.table import table
from tests.bywords import COUNTS, SMALL_COUNTS, season_games

FAR = 10 ** 5000


class Refusals(unittest.TestCase):
    def refused(self, error, count, legs, results):
        before = copy.deepcopy(results)
        with self.assertRaises(SeasonError) as caught:
            table(count, legs, results)
        self.assertIs(type(caught.exception), error)
        self.assertIsInstance(caught.exception, ValueError)
        self.assertEqual(results, before)

    def test_a_team_that_is_not_there(self):
        for count in COUNTS + (1, 101):
            for team in (-1, -2, -count, -count - 1, count, count + 1, 2 * count, 10 ** 9, -10 ** 9, FAR, -FAR):
                for legs in (1, 2):
                    for there in (0, count - 1):
                        self.refused(NoGame, count, legs, [(team, there, 1, 0)])
                        self.refused(NoGame, count, legs, [(there, team, 1, 0)])
                    self.refused(NoGame, count, legs, [(team, team, 1, 0)])
                    self.refused(NoGame, count, legs, [(team, team + 1, 1, 0)])

    def test_a_team_against_itself(self):
        for count in COUNTS + (1,):
            for team in (0, count // 2, count - 1):
                for legs in (1, 2):
                    self.refused(NoGame, count, legs, [(team, team, 0, 0)])

    def test_the_other_way_round_in_one_leg(self):
        for count in SMALL_COUNTS:
            for home, away in season_games(count, 1):
                self.refused(NoGame, count, 1, [(away, home, 2, 1)])

    def test_each_game_of_the_season_is_taken(self):
        for count in SMALL_COUNTS:
            for legs in (1, 2):
                for home, away in season_games(count, legs):
                    rows = table(count, legs, [(home, away, 2, 1)])
                    self.assertEqual((rows[0], rows[-1]), ((1, home, 3, 1, 2), (count, away, 0, -1, 1)))

    def test_a_second_result(self):
        for count in SMALL_COUNTS:
            for legs in (1, 2):
                games = season_games(count, legs)
                for home, away in (games[0], games[-1], games[len(games) // 2]):
                    self.refused(ToldTwice, count, legs, [(home, away, 2, 1), (home, away, 2, 1)])
                    self.refused(ToldTwice, count, legs, [(home, away, 2, 1), (home, away, 0, 3)])
                    all_results = [game + (0, 0) for game in games]
                    self.refused(ToldTwice, count, legs, all_results + [(home, away, 1, 1)])
                    self.refused(ToldTwice, count, legs, [(home, away, 1, 1)] + all_results)

    def test_the_same_two_in_both_legs_are_two_games(self):
        self.assertEqual(len(table(4, 2, [(0, 1, 0, 0), (1, 0, 0, 0)])), 4)
        self.refused(ToldTwice, 4, 2, [(0, 1, 0, 0), (1, 0, 0, 0), (1, 0, 0, 0)])

    def test_the_first_one_in_the_list_is_told(self):
        good = (0, 1, 1, 0)
        wrong = ((1, 0, 1, 0), (2, 2, 0, 0), (0, 4, 0, 0), (-1, 0, 0, 0))
        for bad in wrong:
            self.refused(ToldTwice, 4, 1, [good, good, bad])
            self.refused(ToldTwice, 4, 1, [(1, 2, 0, 0), good, (0, 3, 0, 0), good, bad, bad])
            self.refused(NoGame, 4, 1, [bad, good, good])
            self.refused(NoGame, 4, 1, [good, bad, good])

    def test_a_wrong_result_twice_is_no_game(self):
        self.refused(NoGame, 4, 1, [(1, 0, 1, 0), (1, 0, 1, 0)])
        self.refused(NoGame, 4, 2, [(4, 0, 1, 0), (4, 0, 1, 0)])

    def test_a_wrong_result_behind_many(self):
        results = [game + (1, 2) for game in season_games(30, 2)]
        self.refused(NoGame, 30, 2, results + [(0, 30, 1, 1)])
        self.refused(ToldTwice, 30, 2, results + [results[0]])

    def test_very_large_goals_in_a_refused_result(self):
        self.refused(NoGame, 4, 1, [(1, 0, FAR, FAR)])
        self.refused(ToldTwice, 4, 1, [(0, 1, FAR, FAR), (0, 1, FAR, FAR)])

    def test_no_state_is_kept_between_calls(self):
        self.refused(ToldTwice, 4, 1, [(0, 1, 1, 0), (0, 1, 1, 0)])
        self.assertEqual(table(4, 1, [(0, 1, 1, 0)]), table(4, 1, [(0, 1, 1, 0)]))


class ErrorClasses(unittest.TestCase):
    def test_what_stands_under_what(self):
        self.assertEqual(SeasonError.__bases__, (ValueError,))
        self.assertEqual(NoGame.__bases__, (SeasonError,))
        self.assertEqual(ToldTwice.__bases__, (SeasonError,))
        self.assertFalse(issubclass(NoGame, ToldTwice))
        self.assertFalse(issubclass(ToldTwice, NoGame))

    def test_names(self):
        self.assertEqual([error.__name__ for error in (SeasonError, NoGame, ToldTwice)],
                         ["SeasonError", "NoGame", "ToldTwice"])


if __name__ == "__main__":
    unittest.main()
