import unittest

from samples import FAR, PLAIN, move_by_hand, repeat_by_hand, some_moves

from officepapers.routes import latest_start, moved, repeated, start_days, times_to

MOST = 10 ** 12
BOOK = (("a", ("oo-", (), ())),)
# Only one day of four is open, none near the spans: a route of this name stands still on open days.
SHUT = (("q", ("---o", ((-30, 30),), ())),)


class Starts(unittest.TestCase):
    def test_against_trying_days_one_by_one(self):
        for book, route in some_moves(80, 21):
            moves = {day: move_by_hand(book, route, day) for day in range(-150, 61)}
            for day in range(-55, 56, 2):
                wanted = max(at for at in moves if moves[at] <= day)
                self.assertEqual(latest_start(book, route, day), wanted)
                just = [at for at in moves if moves[at] == day]
                self.assertEqual(start_days(book, route, day), (min(just), max(just)) if just else None)
                if just:
                    self.assertEqual(just, list(range(min(just), max(just) + 1)))

    def test_far_days(self):
        for book, route in some_moves(40, 22):
            for day in [-FAR, -FAR + 1, -10 ** 9, 10 ** 9, FAR - 1, FAR]:
                moves = {at: move_by_hand(book, route, at) for at in range(day - 100, day + 2)}
                self.assertEqual(latest_start(book, route, day), max(at for at in moves if moves[at] <= day))
                just = [at for at in moves if moves[at] == day]
                self.assertEqual(start_days(book, route, day), (min(just), max(just)) if just else None)

    def test_a_day_that_no_day_is_moved_to(self):
        self.assertIsNone(start_days(BOOK, ("a",), 2))
        self.assertEqual(latest_start(BOOK, ("a",), 2), 1)
        self.assertIsNone(start_days(SHUT, ("q",), 0))
        self.assertEqual(latest_start(SHUT, ("q",), 30), -33)
        self.assertEqual(start_days(SHUT, ("q",), 31), (-32, 31))

    def test_all_days_between(self):
        self.assertEqual(start_days(BOOK, ("a",), 3), (2, 3))
        self.assertEqual(start_days(BOOK, ("a",), 4), (4, 4))
        self.assertEqual(start_days((), (), 4), (4, 4))
        self.assertEqual(start_days((), ("+", "+"), -FAR), (-FAR - 2, -FAR - 2))
        self.assertIs(type(start_days(BOOK, ("a",), 3)), tuple)


class Repeated(unittest.TestCase):
    def test_against_moving_time_after_time(self):
        for book, route in some_moves(60, 23):
            for first in [-70, -47, -31, -30, -12, 0, 7, 30, 31, 44]:
                day = first
                for times in range(60):
                    self.assertEqual(repeated(book, route, first, times), day)
                    day = move_by_hand(book, route, day)

    def test_many_times(self):
        for book, route in some_moves(60, 24):
            for day in [-FAR, -FAR + 7, -10 ** 9, -10 ** 6, -31, -30, 0, 31, 10 ** 9, FAR]:
                for times in [0, 1, 1000, 10 ** 6, 333333333, 10 ** 9, MOST - 1, MOST]:
                    wanted = repeat_by_hand(book, route, day, times)
                    self.assertEqual(repeated(book, route, day, times), wanted)

    def test_no_times_and_most_times(self):
        for day in [-FAR, -5, 0, FAR]:
            self.assertEqual(repeated(BOOK, ("+", "a"), day, 0), day)
            self.assertEqual(repeated(BOOK, (), day, MOST), day)
            self.assertEqual(repeated((), ("+",), day, MOST), day + MOST)
            self.assertEqual(repeated((), ("+",) * 8, day, MOST), day + 8 * MOST)
        self.assertEqual(repeated(BOOK, ("+", "a"), 0, MOST), 3 * MOST // 2)
        self.assertEqual(repeated(SHUT, ("q",), -30, MOST), 31)
        self.assertEqual(repeated(SHUT, ("q", "+"), -FAR, MOST), -FAR + 4 * MOST)

    def test_over_the_spans_once(self):
        self.assertEqual(repeated(SHUT, ("+", "q"), -33, 1), 31)
        self.assertEqual(repeated(SHUT, ("+", "q"), -33, 2), 35)
        self.assertEqual(repeated(SHUT, ("+", "q"), -33 - 4 * 10 ** 9, 10 ** 9), -33)
        self.assertEqual(repeated(SHUT, ("+", "q"), -33 - 4 * 10 ** 9, 10 ** 9 + 1), 31)
        self.assertEqual(repeated(SHUT, ("+", "q"), -33 - 4 * 10 ** 9, 2 * 10 ** 9 + 1), 31 + 4 * 10 ** 9)


class TimesTo(unittest.TestCase):
    def test_against_moving_time_after_time(self):
        for book, route in some_moves(60, 25):
            for first in [-70, -45, -31, -30, -12, 0, 7, 30, 31, 44]:
                for goal in [first - 40, first - 1, first, first + 1, first + 2, first + 9, first + 64, first + 130]:
                    self.assertEqual(times_to(book, route, first, goal), times_by_hand(book, route, first, goal))

    def test_far_goals(self):
        days = [-FAR, -FAR + 3, -10 ** 9, -31, 0, 33, 10 ** 9, FAR - 9, FAR]
        for book, route in some_moves(60, 26):
            for day in days:
                for goal in days:
                    self.check_far(book, route, day, goal)

    def check_far(self, book, route, day, goal):
        times = times_to(book, route, day, goal)
        if day >= goal:
            self.assertEqual(times, 0)
        elif times is None:
            still = repeat_by_hand(book, route, day, FAR * 2)
            self.assertLess(still, goal)
            self.assertEqual(move_by_hand(book, route, still), still)
        else:
            self.assertLess(repeat_by_hand(book, route, day, times - 1), goal)
            self.assertGreaterEqual(repeat_by_hand(book, route, day, times), goal)

    def test_at_once_late_and_never(self):
        self.assertEqual(times_to(BOOK, ("a",), 5, 5), 0)
        self.assertEqual(times_to(BOOK, ("a",), 5, -FAR), 0)
        self.assertEqual(times_to(BOOK, (), 5, 5), 0)
        self.assertEqual(times_to(BOOK, ("a",), 2, 3), 1)
        self.assertIsNone(times_to(BOOK, ("a",), 2, 4))
        self.assertIsNone(times_to(BOOK, ("a",), 3, 4))
        self.assertIsNone(times_to(BOOK, (), 5, 6))
        self.assertIsNone(times_to(BOOK, (), -FAR, FAR))
        self.assertEqual(times_to((), ("+",), -FAR, FAR), 2 * FAR)
        self.assertEqual(times_to((), ("+", "+"), -FAR, FAR - 1), FAR)
        self.assertEqual(times_to(SHUT, ("q",), -32, 31), 1)
        self.assertIsNone(times_to(SHUT, ("q",), -33, 31))
        self.assertIsNone(times_to(SHUT, ("q",), -FAR, FAR))
        self.assertEqual(times_to(SHUT, ("+", "q"), -33 - 4 * 10 ** 9, 31), 10 ** 9 + 1)
        self.assertEqual(times_to(SHUT, ("+", "q"), -33 - 4 * 10 ** 9, 32), 10 ** 9 + 2)


def times_by_hand(book, route, day, goal):
    times = 0
    while day < goal:
        there = move_by_hand(book, route, day)
        if there == day:
            return None
        day = there
        times += 1
    return times


class Agreement(unittest.TestCase):
    def test_the_functions_agree(self):
        for book, route in some_moves(20, 27):
            for day in range(-40, 41, 5):
                there = moved(book, route, day)
                self.assertEqual(repeated(book, route, day, 1), there)
                self.assertGreaterEqual(latest_start(book, route, there), day)
                first, last = start_days(book, route, there)
                self.assertTrue(first <= day <= last)
        self.assertEqual(moved((("a", PLAIN),), ("a",), 5), 5)


if __name__ == "__main__":
    unittest.main()
