"""The interface: names and arguments as the document tells them, and what holds over the whole program (point 1)."""

import inspect
import unittest

from gameround import errors, plan, table

FUNCTIONS = (
    (plan, "partner", ["count", "day", "team"]),
    (plan, "meeting_day", ["count", "one", "other"]),
    (plan, "at_home", ["count", "one", "other"]),
    (plan, "games_on", ["count", "day"]),
    (plan, "days_of", ["count", "legs"]),
    (table, "table", ["count", "legs", "results"]),
)


class Interface(unittest.TestCase):
    def test_functions_and_their_arguments(self):
        for module, name, arguments in FUNCTIONS:
            function = getattr(module, name)
            parameters = inspect.signature(function).parameters.values()
            self.assertEqual([parameter.name for parameter in parameters], arguments, name)
            for parameter in parameters:
                self.assertIs(parameter.kind, inspect.Parameter.POSITIONAL_OR_KEYWORD, name)
                self.assertIs(parameter.default, inspect.Parameter.empty, name)

    def test_arguments_by_name(self):
        self.assertEqual(plan.partner(count=4, day=0, team=1), 2)
        self.assertEqual(plan.meeting_day(count=4, one=0, other=1), 1)
        self.assertEqual(plan.at_home(count=4, one=0, other=2), 2)
        self.assertEqual(plan.games_on(count=4, day=3), [(3, 0), (2, 1)])
        self.assertEqual(plan.days_of(count=2, legs=2), [[(0, 1)], [(1, 0)]])
        self.assertEqual(table.table(count=2, legs=1, results=[]), [(1, 0, 0, 0, 0), (1, 1, 0, 0, 0)])

    def test_error_classes_are_made_with_words(self):
        for name in ("SeasonError", "NoGame", "ToldTwice"):
            error = getattr(errors, name)("some words")
            self.assertIsInstance(error, errors.SeasonError)
            self.assertEqual(str(error), "some words")


if __name__ == "__main__":
    unittest.main()
