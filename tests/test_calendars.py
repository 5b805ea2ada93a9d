import unittest

import samples
from samples import FAR, PLAIN, count_by_hand, next_by_hand, opens, some_calendars

from officepapers.calendars import count_open, is_calendar, is_open, last_open, next_open, nth_open, unlike_day

PATTERNS = ["o", "o-", "-o", "oo-", "o-o", "-oo", "--o", "-o-", "ooo-", "oo-o", "o-oo", "-ooo", "o---", "---o", "o-o-"]
NEAR_DAYS = range(-50, 51)
FAR_DAYS = [-FAR, -FAR + 1, -FAR + 2, -FAR + 3, -1000, 1000, FAR - 3, FAR - 2, FAR - 1, FAR]


class Calendars(unittest.TestCase):
    def test_right_ones(self):
        patterns = ["o", "o-", "-o", "oo", "--o", "ooo", "---o", "oooo"]
        spans = [(), ((0, 0),), ((-30, 30),), ((-30, -30), (30, 30)), ((1, 5), (1, 6)), ((1, 9), (2, 3))]
        for pattern in patterns:
            for closed in spans:
                for opened in spans:
                    self.assertIs(is_calendar((pattern, closed, opened)), True)

    def test_wrong_ones(self):
        for thing in samples.BAD_CALENDARS:
            self.assertIs(is_calendar(thing), False, thing)

    def test_each_span_rule_in_both_places(self):
        for spans in samples.BAD_SPANS:
            self.assertIs(is_calendar(("o", spans, ())), False, spans)
            self.assertIs(is_calendar(("o", (), spans)), False, spans)

    def test_by_name(self):
        self.assertIs(is_calendar(thing=PLAIN), True)


class OpenDays(unittest.TestCase):
    def test_is_open(self):
        for calendar in some_calendars(60, 1):
            for day in [*NEAR_DAYS, *FAR_DAYS]:
                self.assertIs(is_open(calendar, day), opens(calendar, day))

    def test_closed_comes_first_then_opened_then_the_pattern(self):
        calendar = ("-o", ((2, 4),), ((3, 6),))
        told = [is_open(calendar, day) for day in range(-2, 9)]
        self.assertEqual(told, [False, True, False, True, False, False, False, True, True, True, False])

    def test_signs_below_zero(self):
        self.assertEqual([is_open(("oo-", (), ()), day) for day in (-4, -3, -2, -1)], [False, True, True, False])
        self.assertIs(is_open(("oo-", (), ()), -FAR), (-FAR) % 3 != 2)

    def test_next_open(self):
        for calendar in some_calendars(60, 2):
            for day in [*NEAR_DAYS, *FAR_DAYS]:
                self.assertEqual(next_open(calendar, day), next_by_hand(calendar, day))

    def test_last_open(self):
        for calendar in some_calendars(60, 3):
            for day in [*NEAR_DAYS, *FAR_DAYS]:
                wanted = max(at for at in range(day - 75, day + 1) if opens(calendar, at))
                self.assertEqual(last_open(calendar, day), wanted)

    def test_days_beyond_the_bounds_are_returned(self):
        self.assertEqual(FAR % 4, 0)
        self.assertEqual(next_open(("---o", (), ()), FAR), FAR + 3)
        self.assertEqual(last_open(("-o--", (), ()), -FAR), -FAR - 3)


class Numbers(unittest.TestCase):
    def test_nth_open_near_the_spans(self):
        for calendar in some_calendars(40, 4):
            open_days = [day for day in range(-60, 140) if opens(calendar, day)]
            for day in range(-60, 50, 3):
                later = [at for at in open_days if at >= day]
                for number in [0, 1, 2, 3, 5, 8, 13, 15]:
                    self.assertEqual(nth_open(calendar, day, number), later[number])

    def test_nth_open_far_away(self):
        for calendar in some_calendars(25, 5):
            for day in [-FAR, -FAR + 5, -10 ** 9, -77, -31, -30, -7, 0, 5, 30, 31, 10 ** 9, FAR]:
                for number in [0, 1, 999, 10 ** 9, FAR // 3, FAR - 1, FAR]:
                    found = nth_open(calendar, day, number)
                    self.assertTrue(opens(calendar, found))
                    self.assertEqual(count_by_hand(calendar, day, found), number + 1)

    def test_nth_open_from_far_below_to_the_spans(self):
        for calendar in some_calendars(25, 6):
            for found in [day for day in range(-40, 41) if opens(calendar, day)]:
                number = count_by_hand(calendar, -10 ** 6, found) - 1
                self.assertEqual(nth_open(calendar, -10 ** 6, number), found)

    def test_nth_open_known(self):
        self.assertEqual(nth_open(PLAIN, 5, 0), 5)
        self.assertEqual(nth_open(PLAIN, FAR, FAR), 2 * FAR)
        self.assertEqual(nth_open(("o-", (), ()), 0, FAR), 2 * FAR)
        self.assertEqual(nth_open(("---o", (), ()), 0, FAR), 4 * FAR + 3)

    def test_count_open_near_the_spans(self):
        for calendar in some_calendars(40, 7):
            for first in range(-45, 46, 4):
                for last in range(-45, 46, 3):
                    wanted = sum(opens(calendar, day) for day in range(first, last + 1))
                    self.assertEqual(count_open(calendar, first, last), wanted)

    def test_count_open_far_away(self):
        days = [-FAR, -FAR + 1, -10 ** 7, -31, -30, 0, 30, 31, 10 ** 7, FAR - 1, FAR]
        for calendar in some_calendars(25, 8):
            for first in days:
                for last in days:
                    self.assertEqual(count_open(calendar, first, last), count_by_hand(calendar, first, last))

    def test_count_open_of_an_earlier_second_day(self):
        for calendar in some_calendars(10, 9):
            for first, last in [(1, 0), (2, 1), (0, -1), (31, 30), (-30, -31), (FAR, -FAR), (9, -40)]:
                self.assertEqual(count_open(calendar, first, last), 0)
        self.assertEqual(count_open(PLAIN, 0, 0), 1)
        self.assertEqual(count_open(PLAIN, -FAR, FAR), 2 * FAR + 1)


def unlike_by_hand(calendar, other):
    unlike = [day for day in range(-100, 101) if opens(calendar, day) != opens(other, day)]
    return min(unlike, key=lambda day: (abs(day), day < 0), default=None)


class Unlike(unittest.TestCase):
    def test_against_looking_day_by_day(self):
        calendars = some_calendars(40, 10)
        for calendar in calendars:
            for other in calendars:
                self.assertEqual(unlike_day(calendar, other), unlike_by_hand(calendar, other))

    def test_never_unlike(self):
        pairs = [
            (PLAIN, PLAIN),
            (PLAIN, ("oooo", (), ())),
            (PLAIN, ("oo", (), ((-30, 30),))),
            (("-o", (), ()), ("-o-o", (), ())),
            (("-o", (), ()), ("-o", ((4, 4),), ((4, 4), (5, 5)))),
            (("o", ((1, 5),), ()), ("ooo", ((1, 3), (2, 5)), ((-2, 2),))),
        ]
        for calendar, other in pairs:
            self.assertIsNone(unlike_day(calendar, other))
            self.assertIsNone(unlike_day(other, calendar))

    def test_of_two_equally_near_days_the_one_above_zero(self):
        self.assertEqual(unlike_day(PLAIN, ("o", ((-7, -7), (7, 7)), ())), 7)
        self.assertEqual(unlike_day(PLAIN, ("o", ((-7, -7), (8, 8)), ())), -7)
        self.assertEqual(unlike_day(PLAIN, ("o", ((-7, -7),), ())), -7)
        self.assertEqual(unlike_day(PLAIN, ("o", ((0, 0),), ())), 0)

    def test_only_beyond_the_spans(self):
        shut = ((-30, 30),)
        found = {unlike_day((one, shut, ()), (two, shut, ())) for one in PATTERNS for two in PATTERNS}
        self.assertLessEqual({None, 31, -31, 32, -32, 33}, found)
        for one in PATTERNS:
            for two in PATTERNS:
                calendar, other = (one, shut, ()), (two, shut, ())
                self.assertEqual(unlike_day(calendar, other), unlike_by_hand(calendar, other))


if __name__ == "__main__":
    unittest.main()
