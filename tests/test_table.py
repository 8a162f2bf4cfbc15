"""The table: points 1, 8, 10 and 11."""

import copy
import itertools
import unittest

from gameround.table import table
from tests.bywords import COUNTS, SMALL_COUNTS, made_results, table_of

HUGE = 10 ** 5000


class Table(unittest.TestCase):
    def test_no_results(self):
        for count in COUNTS:
            for legs in (1, 2):
                self.assertEqual(table(count, legs, []), [(1, team, 0, 0, 0) for team in range(count)])

    def test_one_result(self):
        self.assertEqual(table(2, 1, [(0, 1, 2, 1)]), [(1, 0, 3, 1, 2), (2, 1, 0, -1, 1)])
        self.assertEqual(table(2, 1, [(0, 1, 1, 2)]), [(1, 1, 3, 1, 2), (2, 0, 0, -1, 1)])
        self.assertEqual(table(2, 1, [(0, 1, 2, 2)]), [(1, 0, 1, 0, 2), (1, 1, 1, 0, 2)])
        self.assertEqual(table(2, 1, [(0, 1, 0, 0)]), [(1, 0, 1, 0, 0), (1, 1, 1, 0, 0)])
        self.assertEqual(table(2, 2, [(1, 0, 0, 4)]), [(1, 0, 3, 4, 4), (2, 1, 0, -4, 0)])

    def test_some_results(self):
        results = [(1, 2, 0, 3), (0, 1, 1, 1)]
        self.assertEqual(table(3, 1, results), [(1, 2, 3, 3, 3), (2, 0, 1, 0, 1), (3, 1, 1, -3, 1)])

    def test_all_results(self):
        results = [(0, 3, 2, 0), (1, 2, 1, 1), (0, 1, 0, 1), (2, 3, 4, 4), (2, 0, 0, 0), (3, 1, 2, 5)]
        self.assertEqual(table(4, 1, results),
                         [(1, 1, 7, 4, 7), (2, 0, 4, 1, 2), (3, 2, 3, 0, 5), (4, 3, 1, -5, 6)])

    def test_both_legs_count(self):
        self.assertEqual(table(2, 2, [(0, 1, 2, 1), (1, 0, 3, 0)]), [(1, 1, 3, 2, 4), (2, 0, 3, -2, 2)])

    def test_as_the_words_say(self):
        for count in SMALL_COUNTS + (40,):
            for legs, step, most in itertools.product((1, 2), (1, 2, 3, 7), (2, 3, 6)):
                results = made_results(count, legs, step, most)
                self.assertEqual(table(count, legs, results), table_of(count, results), (count, legs, step, most))

    def test_a_hundred_teams_and_somewhat_more(self):
        for count in (99, 100, 101, 110):
            results = made_results(count, 2)
            self.assertEqual(len(results), count * (count - 1))
            self.assertEqual(table(count, 2, results), table_of(count, results))

    def test_very_large_goals(self):
        self.assertEqual(table(2, 1, [(0, 1, HUGE, HUGE + 1)]),
                         [(1, 1, 3, 1, HUGE + 1), (2, 0, 0, -1, HUGE)])
        self.assertEqual(table(2, 2, [(0, 1, HUGE, 0), (1, 0, HUGE, 1)]),
                         [(1, 0, 3, 1, HUGE + 1), (2, 1, 3, -1, HUGE)])
        large = 2 ** 53
        self.assertEqual(table(2, 1, [(0, 1, large, large + 1)]),
                         [(1, 1, 3, 1, large + 1), (2, 0, 0, -1, large)])

    def test_goals_below_nought_are_not_refused(self):
        self.assertEqual(table(2, 1, [(0, 1, -1, 0)]), [(1, 1, 3, 1, 0), (2, 0, 0, -1, -1)])

    def test_few_teams(self):
        self.assertEqual(table(1, 1, []), [(1, 0, 0, 0, 0)])
        self.assertEqual(table(0, 1, []), [])


class Places(unittest.TestCase):
    def test_points_weigh_more_than_lead_and_goals(self):
        rows = table(4, 1, [(0, 3, 1, 0), (1, 2, 9, 9), (2, 3, 9, 0)])
        self.assertEqual([row[:2] for row in rows], [(1, 2), (2, 0), (3, 1), (4, 3)])
        rows = table(4, 2, [(3, 0, 50, 0), (0, 3, 1, 0), (0, 1, 1, 1)])
        self.assertEqual(rows[:2], [(1, 0, 4, -49, 2), (2, 3, 3, 49, 50)])

    def test_lead_weighs_more_than_goals(self):
        rows = table(4, 1, [(0, 3, 7, 6), (1, 2, 2, 0)])
        self.assertEqual(rows, [(1, 1, 3, 2, 2), (2, 0, 3, 1, 7), (3, 3, 0, -1, 6), (4, 2, 0, -2, 0)])

    def test_goals_decide_last(self):
        rows = table(4, 1, [(0, 3, 1, 0), (1, 2, 2, 1)])
        self.assertEqual(rows, [(1, 1, 3, 1, 2), (2, 0, 3, 1, 1), (3, 2, 0, -1, 1), (4, 3, 0, -1, 0)])

    def test_the_place_behind_teams_that_are_level(self):
        rows = table(6, 1, [(1, 4, 2, 0), (2, 3, 2, 0)])
        self.assertEqual(rows, [(1, 1, 3, 2, 2), (1, 2, 3, 2, 2), (3, 0, 0, 0, 0), (3, 5, 0, 0, 0),
                                (5, 3, 0, -2, 0), (5, 4, 0, -2, 0)])

    def test_teams_at_one_place_in_the_order_of_their_numbers(self):
        for results in itertools.permutations([(0, 3, 1, 1), (1, 2, 1, 1)]):
            rows = table(4, 1, list(results))
            self.assertEqual(rows, [(1, team, 1, 0, 1) for team in range(4)])
        self.assertEqual(table(12, 1, []), [(1, team, 0, 0, 0) for team in range(12)])

    def test_all_level_but_the_best(self):
        rows = table(3, 1, [(1, 2, 0, 0), (0, 1, 0, 0), (2, 0, 0, 0)])
        self.assertEqual([row[:2] for row in rows], [(1, 0), (1, 1), (1, 2)])
        rows = table(4, 1, [(2, 0, 3, 0), (2, 3, 3, 0), (1, 2, 0, 3)])
        self.assertEqual([row[:2] for row in rows], [(1, 2), (2, 0), (2, 1), (2, 3)])


class TheListOfResults(unittest.TestCase):
    def test_the_same_table_whatever_the_order(self):
        results = made_results(4, 1)
        expected = table_of(4, results)
        for order in itertools.permutations(results):
            self.assertEqual(table(4, 1, list(order)), expected)
        results = made_results(9, 2, 2)
        for start in range(len(results)):
            turned = results[start:] + results[:start]
            self.assertEqual(table(9, 2, turned), table(9, 2, results))
            self.assertEqual(table(9, 2, turned[::-1]), table(9, 2, results))

    def test_the_results_are_as_they_were(self):
        for results in ([], made_results(8, 1)[::-1], made_results(8, 2, 3)):
            before = copy.deepcopy(results)
            table(8, 2, results)
            self.assertEqual(results, before)

    def test_asked_twice_answers_twice_the_same(self):
        results = made_results(6, 2)
        first = table(6, 2, results)
        first_copy = list(first)
        first.clear()
        self.assertEqual(table(6, 2, results), first_copy)

    def test_kinds(self):
        for results in ([], made_results(7, 2)):
            rows = table(7, 2, results)
            self.assertIs(type(rows), list)
            for row in rows:
                self.assertIs(type(row), tuple)
                self.assertEqual([type(value) for value in row], [int] * 5)


if __name__ == "__main__":
    unittest.main()
