"""Two teams: points 3, 5 and 6."""

import unittest

from gameround.plan import at_home, days_of, games_on, meeting_day
from tests.bywords import COUNTS, SMALL_COUNTS, first_leg_game, leg_days, met_on, pairs


class TwoTeams(unittest.TestCase):
    def test_pairs_told_by_hand(self):
        self.assertEqual(meeting_day(2, 0, 1), 0)
        self.assertEqual(meeting_day(4, 1, 2), 0)
        self.assertEqual(meeting_day(4, 3, 1), 2)
        self.assertEqual(meeting_day(5, 3, 4), 2)
        self.assertEqual(meeting_day(100, 99, 98), 97)
        self.assertEqual(meeting_day(99, 98, 97), 96)
        self.assertEqual(at_home(5, 1, 2), 1)
        self.assertEqual(at_home(5, 1, 3), 3)
        self.assertEqual(at_home(2, 0, 1), 0)
        self.assertEqual(at_home(4, 3, 1), 3)
        self.assertEqual(at_home(4, 3, 2), 2)
        self.assertEqual(at_home(100, 98, 99), 98)
        self.assertEqual(at_home(100, 97, 99), 99)

    def test_the_same_in_either_order(self):
        for count in COUNTS:
            for low, high in pairs(count):
                self.assertEqual(meeting_day(count, low, high), meeting_day(count, high, low))
                self.assertEqual(at_home(count, low, high), at_home(count, high, low))

    def test_meeting_day_as_the_words_say(self):
        for count in SMALL_COUNTS:
            for day in range(leg_days(count)):
                for low, high in met_on(count, day):
                    self.assertEqual(meeting_day(count, low, high), day, (count, low, high))

    def test_at_home_as_the_words_say(self):
        for count in COUNTS:
            for low, high in pairs(count):
                self.assertEqual(at_home(count, low, high), first_leg_game(count, low, high)[0], (count, low, high))

    def test_they_agree_with_the_season(self):
        for count in COUNTS:
            found = 0
            for day, games in enumerate(days_of(count, 1)):
                for home, away in games:
                    self.assertEqual(meeting_day(count, home, away), day)
                    self.assertEqual(at_home(count, home, away), home)
                    found += 1
            self.assertEqual(found, len(pairs(count)))

    def test_they_agree_with_the_day(self):
        for count in SMALL_COUNTS:
            for low, high in pairs(count):
                home = at_home(count, low, high)
                away = low + high - home
                day = meeting_day(count, high, low)
                self.assertIn((home, away), games_on(count, day))
                self.assertIn((away, home), games_on(count, day + leg_days(count)))

    def test_kinds(self):
        for count in SMALL_COUNTS:
            for low, high in pairs(count):
                self.assertIs(type(meeting_day(count, low, high)), int)
                self.assertIs(type(at_home(count, low, high)), int)


if __name__ == "__main__":
    unittest.main()
