import unittest

import samples
from samples import FAR, PLAIN, move_by_hand, some_moves

from officepapers.errors import TooMany
from officepapers.routes import is_book, is_route, joined, moved, reduced, stops

BOOK = (("a", ("oo-", (), ())), ("b", ("-o", ((1, 9),), ((12, 12),))))


class BooksAndRoutes(unittest.TestCase):
    def test_right_books(self):
        for book in samples.BOOKS:
            self.assertIs(is_book(book), True)
        self.assertIs(is_book(tuple((name, PLAIN) for name in "abyz")), True)
        self.assertIs(is_book(thing=BOOK), True)

    def test_wrong_books(self):
        for thing in samples.BAD_BOOKS:
            self.assertIs(is_book(thing), False, thing)

    def test_right_routes(self):
        for route in samples.ROUTES:
            self.assertIs(is_route(route), True)
        for letter in "abcdefghijklmnopqrstuvwxyz+":
            self.assertIs(is_route((letter,)), True)
        self.assertIs(is_route(thing=()), True)

    def test_wrong_routes(self):
        for thing in samples.BAD_ROUTES:
            self.assertIs(is_route(thing), False, thing)


class Moves(unittest.TestCase):
    def test_letter_by_letter(self):
        route = ("+", "a", "b", "b", "+", "a")
        self.assertEqual(stops(BOOK, route, 1), [1, 2, 3, 11, 11, 12, 12])
        self.assertEqual(moved(BOOK, route, 1), 12)
        self.assertEqual(stops(BOOK, ("+", "b", "+", "+", "a"), 10), [10, 11, 11, 12, 13, 13])

    def test_against_moving_by_hand(self):
        for book, route in some_moves(60, 11):
            for day in [*range(-45, 46), -FAR, -FAR + 1, FAR - 1, FAR]:
                days = [move_by_hand(book, route[:at], day) for at in range(len(route) + 1)]
                self.assertEqual(stops(book, route, day), days)
                self.assertEqual(moved(book, route, day), days[-1])

    def test_the_empty_route(self):
        for day in [0, 5, -FAR, FAR]:
            self.assertEqual(moved(BOOK, (), day), day)
            self.assertEqual(stops((), (), day), [day])

    def test_days_beyond_the_bounds_are_returned(self):
        self.assertEqual(moved((), ("+",) * 8, FAR), FAR + 8)
        self.assertEqual(stops((), ("+", "+"), FAR), [FAR, FAR + 1, FAR + 2])

    def test_a_new_list_each_time(self):
        days = stops(BOOK, ("+", "a"), 1)
        self.assertIs(type(days), list)
        days.append(99)
        days[0] = 77
        self.assertEqual(stops(BOOK, ("+", "a"), 1), [1, 2, 3])
        self.assertIsNot(stops(BOOK, (), 1), stops(BOOK, (), 1))

    def test_later_days_are_never_moved_to_earlier_ones(self):
        for book, route in some_moves(60, 12):
            for first in [-60, -FAR, FAR - 120]:
                days = [moved(book, route, day) for day in range(first, first + 121)]
                self.assertEqual(days, sorted(days))


class Reduced(unittest.TestCase):
    def test_reduced(self):
        pairs = [
            ((), ()),
            (("+",), ("+",)),
            (("+", "+"), ("+", "+")),
            (("+",) * 8, ("+",) * 8),
            (("a",), ("a",)),
            (("a", "a"), ("a",)),
            (("a",) * 8, ("a",)),
            (("a", "b", "a"), ("a", "b", "a")),
            (("a", "+", "a"), ("a", "+", "a")),
            (("b", "b", "a", "a", "+", "+", "a", "a"), ("b", "a", "+", "+", "a")),
        ]
        for route, wanted in pairs:
            self.assertEqual(reduced(route), wanted)
            self.assertIs(type(reduced(route)), tuple)
            self.assertEqual(reduced(route=route), wanted)

    def test_it_moves_all_days_alike(self):
        for book, route in some_moves(60, 13):
            short = reduced(route)
            self.assertEqual(reduced(short), short)
            for day in range(-40, 41):
                self.assertEqual(moved(book, short, day), moved(book, route, day))


class Joined(unittest.TestCase):
    def test_one_to_four_routes(self):
        self.assertEqual(joined(("a", "a", "+")), ("a", "+"))
        self.assertEqual(joined(()), ())
        self.assertEqual(joined(("a", "b"), ("b", "a")), ("a", "b", "a"))
        self.assertEqual(joined(("+",), (), ("+", "a")), ("+", "+", "a"))
        self.assertEqual(joined(("a",), ("a",), (), ("a", "b")), ("a", "b"))
        self.assertEqual(joined((), (), (), ()), ())
        self.assertIs(type(joined(("a",), ("b",))), tuple)

    def test_eight_letters_are_joined_and_nine_are_not(self):
        self.assertEqual(joined(("a", "+", "b", "+"), ("a", "+", "b", "+")), tuple("a+b+a+b+"))
        self.assertEqual(joined(("+",) * 2, ("+",) * 2, ("+",) * 2, ("+",) * 2), ("+",) * 8)
        self.assertEqual(joined(("a",) * 8, ("a", "+"), ("b",) * 8, ("b", "c", "d", "e", "f", "g")), tuple("a+bcdefg"))
        for routes in [(("+",) * 8, ("+",)), (tuple("abcd"), tuple("abcd"), ("e",)), (("a", "+") * 4, ("a",))]:
            with self.assertRaises(TooMany):
                joined(*routes)

    def test_it_moves_as_all_of_them(self):
        book = samples.BOOKS[3]
        for first in [("a",), ("a", "+"), ("z", "c")]:
            for second in [("a",), ("c", "c"), ("+", "m")]:
                for third in [(), ("m", "a")]:
                    for day in range(-40, 41):
                        wanted = moved(book, third, moved(book, second, moved(book, first, day)))
                        self.assertEqual(moved(book, joined(first, second, third), day), wanted)


if __name__ == "__main__":
    unittest.main()
