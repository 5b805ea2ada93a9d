"""What is told for all starting days, of any size."""

import itertools
import unittest

from house_samples import HOUSE, MODE
from plan_samples import OFFICE, PLAN, order_by_hand, some_offices
from samples import FAR, PLAIN

from officepapers.errors import BadOrder, BadStep, BadStretch
from officepapers.plans import (
    ahead_anyhow,
    ahead_word,
    days_with,
    next_with,
    order_at,
    orders_ever,
)
from officepapers.spelling import later_shown, never_later

# Beyond the spans and some days around them the orders come again.
NEAR = sorted(range(-150, 151), key=lambda day: (abs(day), -day))
OFFICES = some_offices(70, 131)


def orders_near(office, plan):
    """The order of each day near the spans, and of a few whole turns on both sides."""
    return {day: order_by_hand(office, plan, day) for day in NEAR}


def count_by_hand(orders, order, first, last):
    """How many days have the order, told day by day where the days are few, else by whole turns."""
    day, count = first, 0
    while day <= last:
        if abs(day) <= 60:
            count += orders[day] == order
            day += 1
            continue
        side = 100 if day > 0 else -100
        turns = max(0, (last if day > 0 else min(last, -61)) - day) // 12
        turn = [orders[side + (day - side + at) % 12 - 12 * (side < 0)] for at in range(12)]
        if turns > 1:
            count += (turns - 1) * turn.count(order)
            day += 12 * (turns - 1)
        else:
            count += turn[0] == order
            day += 1
    return count


class OrdersEver(unittest.TestCase):
    def test_against_trying_all_days_near_and_turns_beyond(self):
        for office, plan in OFFICES:
            nearest = {}
            for day, order in orders_near(office, plan).items():
                nearest.setdefault(order, day)
            told = orders_ever(office, plan)
            self.assertIs(type(told), list)
            self.assertEqual(told, sorted(nearest.items()))

    def test_of_two_equally_near_days_the_one_above_0(self):
        office = (HOUSE, MODE, (("a", ("o", ((-9, -9), (9, 9)), ())),))
        plan = ((("shut", 0), ("a",)), (("shut", 1), ()))
        self.assertEqual(orders_ever(office, plan), [((0, 1), 0), ((1, 0), 9)])
        office = (HOUSE, MODE, (("a", ("o", ((-9, -9), (10, 10)), ())),))
        self.assertEqual(orders_ever(office, plan), [((0, 1), 0), ((1, 0), -9)])

    def test_an_order_far_from_the_spans(self):
        # All days within the spans are open, so only beyond them the step has to wait.
        office = (HOUSE, MODE, (("a", ("oo--", (), ((-30, 30),))),))
        plan = ((("shut", 0), ("a",)), (("shut", 1), ()))
        self.assertEqual(orders_ever(office, plan), [((0, 1), 0), ((1, 0), 31)])
        office = (HOUSE, MODE, (("a", ("o---", (), ((-30, 30),))), ("b", ("o--", ((-30, 30),), ()))))
        plan = ((("shut", 0), ("a", "+", "a", "+", "a")), (("shut", 1), ("b", "+", "b", "+", "+")))
        self.assertEqual(orders_ever(office, plan), sorted(
            (order, min((day for day in NEAR if order_by_hand(office, plan, day) == order), key=NEAR.index))
            for order in {order_by_hand(office, plan, day) for day in NEAR}
        ))

    def test_no_steps_and_one(self):
        self.assertEqual(orders_ever(OFFICE, ()), [((), 0)])
        self.assertEqual(orders_ever(OFFICE, PLAN[:1]), [((0,), 0)])


class DaysWith(unittest.TestCase):
    def test_against_trying_days(self):
        for office, plan in OFFICES:
            orders = orders_near(office, plan)
            for order in sorted(set(orders.values()))[:6]:
                for first, last in [(-150, 150), (-150, -90), (-110, -40), (0, 0), (-7, 20), (20, 110), (95, 150), (60, 60)]:
                    wanted = sum(orders[day] == order for day in range(first, last + 1))
                    self.assertEqual(days_with(office, plan, order, first, last), wanted, (first, last))

    def test_far_days(self):
        for office, plan in OFFICES[:40]:
            orders = orders_near(office, plan)
            for order in sorted(set(orders.values()))[:4]:
                for first, last in [
                    (-FAR, FAR),
                    (-FAR, -FAR),
                    (FAR, FAR),
                    (-FAR + 3, -10 ** 9),
                    (10 ** 9, FAR - 5),
                    (-10 ** 12, 17),
                    (-17, 10 ** 12 + 1),
                    (-1000, 2000),
                ]:
                    wanted = count_by_hand(orders, order, first, last)
                    self.assertEqual(days_with(office, plan, order, first, last), wanted, (first, last))

    def test_all_orders_together_are_all_days(self):
        for office, plan in OFFICES:
            for first, last in [(-FAR, FAR), (-12345, 54321), (7, 7)]:
                counts = [days_with(office, plan, order, first, last) for order, _ in orders_ever(office, plan)]
                self.assertEqual(sum(counts), last - first + 1)

    def test_an_order_that_no_day_has(self):
        plan = ((("shut", 0), ()), (("shut", 1), ("+",)))
        self.assertEqual(days_with(OFFICE, plan, (1, 0), -FAR, FAR), 0)
        self.assertEqual(days_with(OFFICE, plan, (0, 1), -FAR, FAR), 2 * FAR + 1)
        self.assertEqual(days_with(OFFICE, (), (), -FAR, FAR), 2 * FAR + 1)
        self.assertIsNone(next_with(OFFICE, plan, (1, 0), -FAR))
        self.assertEqual(next_with(OFFICE, plan, (0, 1), -FAR), -FAR)

    def test_the_second_day_earlier(self):
        for first, last in [(1, 0), (FAR, -FAR), (-5, -6)]:
            with self.assertRaises(BadStretch):
                days_with(OFFICE, PLAN, tuple(range(7)), first, last)
        self.assertIn(days_with(OFFICE, PLAN, tuple(range(7)), 0, 0), (0, 1))

    def test_orders_that_are_none(self):
        for order in [(), (0,), (0, 0), (0, 1, 1), (0, 2), (1, 2), [0, 1], (0, True), (-1, 0), (0, 1, 2)]:
            for call in [lambda: days_with(OFFICE, PLAN[:2], order, 0, 1), lambda: next_with(OFFICE, PLAN[:2], order, 0)]:
                with self.assertRaises(BadOrder):
                    call()


class NextWith(unittest.TestCase):
    def test_against_trying_days(self):
        for office, plan in OFFICES:
            orders = orders_near(office, plan)
            for order in sorted(set(orders.values()))[:6]:
                for first in [-150, -112, -61, -30, -1, 0, 12, 30, 31, 70]:
                    wanted = next((day for day in range(first, 151) if orders[day] == order), None)
                    self.assertEqual(next_with(office, plan, order, first), wanted)

    def test_far_days(self):
        for office, plan in OFFICES:
            orders = orders_near(office, plan)
            for order in sorted(set(orders.values()))[:4]:
                for first in [-FAR, -FAR + 5, -10 ** 6, 10 ** 6, FAR - 1, FAR]:
                    turn = range(first, first + 12)
                    later = turn if first > 0 else itertools.chain(turn, range(-150, 151))
                    wanted = next((day for day in later if order_by_hand(office, plan, day) == order), None)
                    self.assertEqual(next_with(office, plan, order, first), wanted)


class Ahead(unittest.TestCase):
    def test_words_against_all_orders(self):
        words = set()
        for office, plan in OFFICES:
            orders = set(orders_near(office, plan).values())
            for number, other in itertools.permutations(range(len(plan)), 2):
                ahead = [order.index(number) < order.index(other) for order in orders]
                wanted = "always" if all(ahead) else "sometimes" if any(ahead) else "never"
                self.assertEqual(ahead_word(office, plan, number, other), wanted)
                words.add(wanted)
        self.assertEqual(words, {"always", "never", "sometimes"})

    def test_anyhow_against_routes_that_are_never_later(self):
        told = []
        for office, plan in OFFICES:
            for number, other in itertools.permutations(range(len(plan)), 2):
                anyhow = ahead_anyhow(office, plan, number, other)
                first, second = plan[number][1], plan[other][1]
                if number < other:
                    self.assertIs(anyhow, never_later(first, second))
                elif len(first) < 8:
                    self.assertIs(anyhow, never_later(first + ("+",), second))
                if anyhow:
                    self.assertEqual(ahead_word(office, plan, number, other), "always")
                told.append(anyhow)
        self.assertEqual(set(told), {True, False})

    def test_anyhow_is_not_for_some_open_days(self):
        # Where it is not so, days are shown for which the step is not ahead.
        for _, plan in OFFICES[:30]:
            for number, other in itertools.permutations(range(len(plan)), 2):
                route = plan[number][1] + (() if number < other else ("+",))
                if len(route) > 8:
                    continue
                shown = later_shown(route, plan[other][1])
                self.assertIs(ahead_anyhow((HOUSE, MODE, book_of(plan)), plan, number, other), shown is None)

    def test_nine_letters(self):
        book = (("a", PLAIN), ("b", PLAIN))

        def anyhow(first, second):
            # The first one has the greater number.
            plan = ((("shut", 0), second), (("shut", 0), first))
            return ahead_anyhow((HOUSE, MODE, book), plan, 1, 0)

        self.assertIs(anyhow(("+",) * 8, ("+",) * 8), False)
        self.assertIs(anyhow(("+",) * 7, ("+",) * 8), True)
        self.assertIs(anyhow(("a",) * 8, ("a", "+")), True)
        self.assertIs(anyhow(("a",) * 8, ("+", "a")), False)
        self.assertIs(anyhow(("a", "b") * 4, ("a", "b") * 4), False)
        self.assertIs(anyhow(("a", "a") + ("+",) * 6, ("a",) + ("+",) * 7), True)
        self.assertIs(anyhow(("a", "a", "b", "b", "a", "a", "+", "+"), ("a", "b", "+", "a", "+", "+", "+", "b")), True)

    def test_of_two_on_one_day_the_lesser_number_is_ahead(self):
        plan = ((("shut", 0), ("a",)), (("shut", 1), ("a",)))
        self.assertEqual([ahead_word(OFFICE, plan, 0, 1), ahead_word(OFFICE, plan, 1, 0)], ["always", "never"])
        self.assertEqual([ahead_anyhow(OFFICE, plan, 0, 1), ahead_anyhow(OFFICE, plan, 1, 0)], [True, False])

    def test_equal_numbers(self):
        for call in (ahead_word, ahead_anyhow):
            for number in range(7):
                with self.assertRaises(BadStep):
                    call(OFFICE, PLAN, number, number)

    def test_far_from_the_spans_alone(self):
        office = (HOUSE, MODE, (("a", ("oo--", (), ((-30, 30),))),))
        plan = ((("shut", 0), ("a",)), (("shut", 1), ()))
        self.assertEqual(ahead_word(office, plan, 0, 1), "sometimes")
        office = (HOUSE, MODE, (("a", ("o", ((30, 30),), ())),))
        self.assertEqual(ahead_word(office, plan, 0, 1), "sometimes")
        self.assertEqual(order_at(office, plan, 30), (1, 0))


def book_of(plan):
    names = sorted({letter for _, route in plan for letter in route} - {"+"})
    return tuple((name, PLAIN) for name in names)


if __name__ == "__main__":
    unittest.main()
