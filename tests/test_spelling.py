import itertools
import random
import unittest

import samples

from officepapers.routes import reduced
from officepapers.spelling import later_holds, later_shown, never_later, spelled_at

LETTERS = "ab+"


def routes_up_to(most, letters=LETTERS):
    return [route for many in range(most + 1) for route in itertools.product(letters, repeat=many)]


def some_pairs(count, seed):
    """Pairs of routes of eight letters and fewer; the letters of some stand in the other one."""
    chance = random.Random(seed)
    pairs = []
    for _ in range(count):
        letters = chance.choice(["+", "a", "a+", "ab", "ab+", "abc+", "abcdefgh+", "amz"])
        other = tuple(chance.choice(letters) for _ in range(chance.choice([0, 3, 7, 8, 8])))
        route = tuple(chance.choice(letters) for _ in range(chance.choice([0, 2, 4, 8])))
        if chance.random() < 0.3:
            route = tuple(letter for letter in other if chance.random() < 0.7)
        pairs.append((route, other))
    return pairs


def places_by_hand(route, other):
    """The least tuple of places, looked for among all choices of places."""
    letters = reduced(route)
    found = [
        places
        for places in itertools.combinations(range(len(other)), len(letters))
        if tuple(other[at] for at in places) == letters
    ]
    return min(found, default=None)


def move_shown(closed, route, day):
    """Move the day where each name is open on all days but those told as closed."""
    closed = {name: set(days) for name, days in closed}
    for letter in route:
        if letter == "+":
            day += 1
        else:
            while day in closed[letter]:
                day += 1
    return day


class Spelled(unittest.TestCase):
    def assert_as_by_hand(self, route, other):
        wanted = places_by_hand(route, other)
        self.assertEqual(spelled_at(route, other), wanted, (route, other))
        self.assertIs(never_later(route, other), wanted is not None, (route, other))

    def test_against_all_choices_of_places(self):
        for route in routes_up_to(4):
            for other in routes_up_to(4):
                self.assert_as_by_hand(route, other)
        for route, other in some_pairs(2000, 31):
            self.assert_as_by_hand(route, other)

    def test_the_first_route_is_reduced_and_the_other_one_is_not(self):
        self.assertEqual(spelled_at(("a", "a", "a"), ("b", "a")), (1,))
        self.assertEqual(spelled_at(("a",), ("a", "a", "a")), (0,))
        self.assertEqual(spelled_at(("a", "b", "b"), ("a", "a", "c", "b", "b")), (0, 3))
        self.assertEqual(spelled_at(("a",) * 8, ("+",) * 7 + ("a",)), (7,))
        self.assertIs(never_later(("a", "a"), ("a",)), True)
        self.assertIs(never_later(("a",), ("a", "a")), True)

    def test_plus_signs_are_not_reduced(self):
        self.assertIsNone(spelled_at(("+", "+"), ("+", "a")))
        self.assertEqual(spelled_at(("+", "+"), ("+", "a", "+")), (0, 2))
        self.assertIs(never_later(("a", "+", "+", "a"), ("a", "+", "a")), False)
        self.assertIs(never_later(("a", "+", "a"), ("a", "+", "+", "a")), True)

    def test_the_empty_route(self):
        self.assertEqual(spelled_at((), ()), ())
        self.assertEqual(spelled_at((), ("a", "+")), ())
        self.assertIsNone(spelled_at(("a",), ()))
        self.assertIsNone(spelled_at(("+",), ()))
        self.assertIs(never_later((), ("z",)), True)
        self.assertIs(never_later(("z",), ()), False)

    def test_the_least_places(self):
        self.assertEqual(spelled_at(("a", "+"), ("+", "a", "a", "+", "+")), (1, 3))
        self.assertEqual(spelled_at(("a", "b"), tuple("abababab")), (0, 1))
        self.assertIs(type(spelled_at(("a",), ("a",))), tuple)


class LaterShown(unittest.TestCase):
    def assert_shown(self, route, other):
        shown = later_shown(route, other)
        if places_by_hand(route, other) is not None:
            self.assertIsNone(shown)
            return
        self.assertIs(type(shown), tuple)
        closed, day = shown
        self.assertIs(type(closed), tuple)
        self.assertEqual([name for name, _ in closed], sorted(set(route + other) - {"+"}))
        for pair in closed:
            self.assertIs(type(pair), tuple)
            self.assertIs(type(pair[1]), tuple)
            self.assertEqual(list(pair[1]), sorted(set(pair[1])))
            self.assertLessEqual(len(pair[1]), 100)
            for one in pair[1]:
                self.assertIs(type(one), int)
                self.assertTrue(-200 <= one <= 200)
        self.assertIs(type(day), int)
        self.assertTrue(-200 <= day <= 200)
        self.assertGreater(move_shown(closed, route, day), move_shown(closed, other, day), (route, other))
        self.assertIs(later_holds(route, other, shown), True)

    def test_what_is_shown_moves_the_first_route_to_a_later_day(self):
        for route in routes_up_to(4):
            for other in routes_up_to(4):
                self.assert_shown(route, other)

    def test_long_routes(self):
        for route, other in some_pairs(2000, 32):
            self.assert_shown(route, other)
            self.assert_shown(other, route)
        for route, other in itertools.permutations(["abababab", "babababa", "a+a+a+a+", "+a+a+a+a", "++++++++"], 2):
            self.assert_shown(tuple(route), tuple(other))
        self.assert_shown(tuple("abcdefgh"), tuple("hgfedcba"))
        self.assert_shown(tuple("abcdefgh"), tuple("+bcdefgh"))
        self.assert_shown(tuple("a"), ("+",) * 8)
        self.assert_shown(("+",) * 8, ("+",) * 7 + ("a",))

    def test_none_where_it_is_never_later(self):
        for route in samples.ROUTES:
            self.assertIsNone(later_shown(route, route))
            self.assertIsNone(later_shown((), route))


class LaterHolds(unittest.TestCase):
    ROUTE, OTHER = ("b", "+"), ("+", "a")
    RIGHT = ((("a", (-1,)), ("b", (0, 1, 2, 7))), 0)

    def holds(self, thing):
        return later_holds(self.ROUTE, self.OTHER, thing)

    def test_right_ones(self):
        self.assertIs(self.holds(self.RIGHT), True)
        self.assertIs(later_holds(thing=self.RIGHT, other=self.OTHER, route=self.ROUTE), True)
        for thing in [
            ((("a", ()), ("b", (0, 1))), 0),
            ((("a", ()), ("b", tuple(range(-200, -100)))), -200),
            ((("a", tuple(range(100))), ("b", (200,))), 200),
            ((("a", ()), ("b", (-200, 3, 4, 200))), 3),
        ]:
            self.assertIs(self.holds(thing), True, thing)

    def test_those_that_show_nothing(self):
        for thing in [
            # Both are moved to one day, or the first to the earlier one.
            ((("a", ()), ("b", ())), 0),
            ((("a", (1,)), ("b", (0,))), 0),
            ((("a", (1, 2)), ("b", (0,))), 0),
            ((("a", (-1,)), ("b", (0, 1, 2, 7))), 3),
            ((("a", ()), ("b", tuple(range(-200, -100)))), 200),
        ]:
            self.assertIs(self.holds(thing), False, thing)

    def test_further_names(self):
        self.assertIs(self.holds(((("a", ()), ("b", (0, 1)), ("c", ())), 0)), True)
        self.assertIs(self.holds(((("a", ()), ("b", (0, 1)), ("x", (5, 6)), ("z", (0,))), 0)), True)
        for pair in [("c", (6, 5)), ("c", (5, 5)), ("c", [5]), ("c", (True,)), ("c", (201,)), ("cc", ()), ("+", ())]:
            self.assertIs(self.holds(((("a", ()), ("b", (0, 1)), pair), 0)), False, pair)
        every = tuple((name, (0, 1) if name == "b" else ()) for name in "abcdefghijklmnopqrstuvwxyz")
        self.assertIs(self.holds((every, 0)), True)

    def test_names_missing_out_of_order_or_twice(self):
        a, b = ("a", ()), ("b", (0, 1))
        for closed in [(), (a,), (b,), (b, a), (a, a, b), (a, b, b), (("a", ()), ("b", (0, 1)), ("a", ()))]:
            self.assertIs(self.holds((closed, 0)), False, closed)
        self.assertIs(later_holds(("+",), ("a",), ((), 0)), False)
        self.assertIs(later_holds(("+",), ("a",), ((("a", ()),), 0)), True)
        self.assertIs(later_holds(("+",), (), ((), 0)), True)
        self.assertIs(later_holds(("a",), ("b",), ((("a", (0,)),), 0)), False)

    def test_wrong_days(self):
        for days in [
            (1, 0),
            (0, 0, 1),
            (0, 1, 1),
            tuple(range(101)),
            (0, 1, 201),
            (-201, 0, 1),
            (False, 1),
            (0, True),
            (0, True, 2),
            (0, "1"),
            (0, None),
            [0, 1],
            {0, 1},
            {0: 1},
            "01",
            0,
            None,
            range(2),
            samples.Odd(),
            (0, 1, samples.Odd()),
        ]:
            self.assertIs(self.holds(((("a", ()), ("b", days)), 0)), False, days)
            self.assertIs(self.holds(((("a", days), ("b", (0, 1))), 0)), False, days)
        for day in [201, -201, True, False, None, "0", (0,), 10 ** 59, samples.Odd()]:
            self.assertIs(self.holds(((("a", ()), ("b", tuple(range(-99, 0)) + (1,))), day)), False, day)
        self.assertIs(self.holds(((("a", ()), ("b", (1, 2))), 1)), True)
        self.assertIs(self.holds(((("a", ()), ("b", (1, 2))), True)), False)

    def test_a_hundred_days_are_right_and_one_more_is_not(self):
        for many, wanted in [(100, True), (101, False)]:
            self.assertIs(self.holds(((("a", ()), ("b", tuple(range(many)))), 0)), wanted)

    def test_other_forms(self):
        closed, day = self.RIGHT
        for thing in [
            [closed, day],
            (list(closed), day),
            (closed,),
            (closed, day, day),
            (day, closed),
            closed,
            ((["a", ()], closed[1]), day),
            ((("a",), closed[1]), day),
            ((("a", (), ()), closed[1]), day),
            (("a", closed[1]), day),
            ((None, closed[1]), day),
            (((b"a", ()), closed[1]), day),
            (((1, ()), closed[1]), day),
            ((("A", ()), closed[1]), day),
            ((("", ()), closed[1]), day),
            (((samples.Odd(), ()), closed[1]), day),
            ((samples.Odd(), closed[1]), day),
            (samples.Odd(), day),
            (dict(closed), day),
            ("ab", 0),
            (None, 0),
            (),
            5,
            *samples.OTHERS,
        ]:
            self.assertIs(self.holds(thing), False, thing)

    def test_nothing_shows_a_route_that_is_never_later(self):
        for many in range(4):
            for days in itertools.combinations(range(4), many):
                for day in range(-1, 4):
                    self.assertIs(later_holds(("a",), ("a", "+"), ((("a", days),), day)), False)
                    self.assertIs(later_holds(("a", "a"), ("a",), ((("a", days),), day)), False)

    def test_against_moving_by_hand(self):
        chance = random.Random(33)
        found = {True: 0, False: 0}
        for route, other in some_pairs(1500, 34):
            names = sorted(set(route + other) - {"+"})
            for _ in range(3):
                closed = tuple((name, tuple(sorted(chance.sample(range(-4, 9), 6)))) for name in names)
                day = chance.randint(-4, 4)
                wanted = move_shown(closed, route, day) > move_shown(closed, other, day)
                self.assertIs(later_holds(route, other, (closed, day)), wanted)
                found[wanted] += 1
        self.assertGreater(min(found.values()), 300)


if __name__ == "__main__":
    unittest.main()
