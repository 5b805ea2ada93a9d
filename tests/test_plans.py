import itertools
import random
import unittest

from copy_samples import all_deeds
from house_samples import HOUSE, MODE, MODES, all_right_deeds, with_part
from plan_samples import (
    BAD_LOOKS,
    BAD_OFFICES,
    BAD_PLANS,
    BAD_STEPS,
    BOOK,
    LONG_PLAN,
    OFFICE,
    PLAN,
    STEP,
    all_looks,
    history_by_hand,
    order_by_hand,
    some_offices,
)
from samples import BOOKS, FAR, OTHERS, move_by_hand

from officepapers.errors import BadDay, BadStretch
from officepapers.plans import (
    day_of,
    history,
    is_office,
    is_plan,
    latest_done,
    next_change,
    order_at,
    stretches,
)

DAYS = [*range(-60, 61, 3), -FAR, -FAR + 5, -10 ** 9, 10 ** 9 + 1, FAR - 4, FAR]


class Offices(unittest.TestCase):
    def test_right_ones(self):
        for office, plan in some_offices(200, 121):
            self.assertIs(is_office(office), True)
            self.assertIs(is_plan(office, plan), True)
        for mode in MODES:
            for book in BOOKS:
                self.assertIs(is_office((HOUSE, mode, book)), True)
        self.assertIs(is_office(thing=OFFICE), True)

    def test_each_rule_broken_alone(self):
        for thing in BAD_OFFICES:
            self.assertIs(is_office(thing), False, thing)

    def test_other_objects(self):
        for thing in OTHERS:
            for at in range(3):
                self.assertIs(is_office(with_part(OFFICE, at, thing)), False)


class Plans(unittest.TestCase):
    def test_each_deed_alone(self):
        for people, size in [(1, 1), (2, 3), (4, 6), (3, 4)]:
            office = ((people, (0,) * (size - 1), (False,) * size, (), ()), MODE, ())
            deeds = all_right_deeds(people, size) + all_deeds(size) + all_looks(people, size)
            for deed in deeds:
                self.assertIs(is_plan(office, ((deed, ("+",)),)), True, deed)
            for deed in all_right_deeds(4, 6) + all_deeds(6) + all_looks(4, 6):
                self.assertIs(is_plan(office, ((deed, ()),)), deed in deeds, deed)

    def test_each_rule_broken_alone(self):
        self.assertIs(is_plan(OFFICE, (STEP,)), True)
        for thing in BAD_PLANS:
            self.assertIs(is_plan(OFFICE, thing), False, thing)
        for step in BAD_STEPS:
            self.assertIs(is_plan(OFFICE, (STEP, step, STEP)), False, step)

    def test_names_of_the_book_alone(self):
        deed = ("shut", 0)
        for office, names in [(OFFICE, "ak"), ((HOUSE, MODE, ()), ""), ((HOUSE, MODE, BOOK[1:]), "k")]:
            for letter in "abcdefghijklmnopqrstuvwxyz":
                self.assertIs(is_plan(office, ((deed, ("+", letter)),)), letter in names)
            self.assertIs(is_plan(office, ((deed, ("+",) * 8),)), True)
            self.assertIs(is_plan(office, ((deed, ("+",) * 9),)), False)

    def test_eight_steps_and_nine(self):
        for many in range(9):
            self.assertIs(is_plan(OFFICE, (STEP,) * many), True)
        self.assertIs(is_plan(OFFICE, LONG_PLAN), True)
        self.assertIs(is_plan(OFFICE, (STEP,) * 9), False)
        self.assertIs(is_plan(office=OFFICE, thing=PLAN), True)

    def test_looks(self):
        self.assertIs(is_plan(OFFICE, ((("look", 2, 3, 3), ()),)), True)
        for look in BAD_LOOKS:
            self.assertIs(is_plan(OFFICE, ((look, ()),)), False, look)

    def test_other_objects(self):
        for thing in OTHERS:
            self.assertIs(is_plan(OFFICE, thing), False)
            self.assertIs(is_plan(OFFICE, (thing,)), False)
            self.assertIs(is_plan(OFFICE, ((thing, ()),)), False)
            self.assertIs(is_plan(OFFICE, ((STEP[0], thing),)), False)


class Histories(unittest.TestCase):
    def test_against_moving_days_one_by_one(self):
        for office, plan in some_offices(120, 122):
            for day in DAYS:
                told = history_by_hand(office, plan, day)
                self.assertEqual(history(office, plan, day), told)
                self.assertEqual(order_at(office, plan, day), tuple(number for _, number in told))
                for number, (_, route) in enumerate(plan):
                    self.assertEqual(day_of(office, plan, number, day), move_by_hand(office[2], route, day))

    def test_steps_on_one_day(self):
        plan = tuple((("shut", 0), route) for route in [("+",), (), ("a",), (), ("+",), ("a", "a")])
        office = (HOUSE, MODE, (("a", ("o-", (), ())),))
        self.assertEqual(history(office, plan, 0), [(0, 1), (0, 2), (0, 3), (0, 5), (1, 0), (1, 4)])
        self.assertEqual(order_at(office, plan, 1), (1, 3, 0, 2, 4, 5))

    def test_the_example_of_the_document(self):
        house = (2, (0,), (False, False), ((0, ("p", 1), "allow"),), ())
        office = (house, ("bar", "keeps", "now", True), (("a", ("oo-", (), ())),))
        plan = ((("over", 1, 0), ("+", "a")), (("bar", 0, ("p", 1)), ("a",)))
        self.assertEqual([history(office, plan, day) for day in range(3)], [
            [(0, 1), (1, 0)],
            [(1, 1), (3, 0)],
            [(3, 0), (3, 1)],
        ])

    def test_no_steps(self):
        for day in (0, -FAR, FAR):
            self.assertEqual(history(OFFICE, (), day), [])
            self.assertEqual(order_at(OFFICE, (), day), ())
            self.assertEqual(latest_done(OFFICE, (), day), day)
            self.assertEqual(stretches(OFFICE, (), day, day), [(day, day, ())])
            self.assertIsNone(next_change(OFFICE, (), day))

    def test_kinds_of_what_is_returned(self):
        self.assertIs(type(order_at(OFFICE, PLAN, 3)), tuple)
        told = history(OFFICE, PLAN, 3)
        self.assertIs(type(told), list)
        self.assertEqual({type(pair) for pair in told}, {tuple})
        kept = list(told)
        told.reverse()
        self.assertEqual(history(OFFICE, PLAN, 3), kept)


class LatestDone(unittest.TestCase):
    def test_against_trying_days(self):
        for office, plan in some_offices(120, 123):
            for day in [*range(-45, 46, 5), -FAR, FAR] if plan else []:
                latest = latest_done(office, plan, day)
                self.assertLessEqual(max(at for at, _ in history_by_hand(office, plan, latest)), day)
                self.assertGreater(max(at for at, _ in history_by_hand(office, plan, latest + 1)), day)

    def test_the_latest_day_and_one_later(self):
        office = (HOUSE, MODE, (("a", ("oo-", (), ())),))
        plan = ((("shut", 0), ("a",)), (("shut", 1), ("+", "+")))
        self.assertEqual([latest_done(office, plan, day) for day in range(5)], [-2, -1, 0, 1, 2])
        self.assertEqual([latest_done(office, plan[:1], day) for day in range(5)], [0, 1, 1, 3, 4])
        self.assertEqual(latest_done(office, plan, -FAR), -FAR - 2)


class Stretches(unittest.TestCase):
    def test_against_each_day(self):
        chance = random.Random(125)
        for office, plan in some_offices(60, 126):
            first = chance.choice([-FAR, -90, -40, -30, 0, 31, FAR - 130])
            last = first + chance.choice([0, 1, 12, 60, 130])
            runs = stretches(office, plan, first, last)
            self.assertIs(type(runs), list)
            days = [day for run in runs for day in range(run[0], run[1] + 1)]
            self.assertEqual(days, list(range(first, last + 1)))
            for run in runs:
                self.assertIs(type(run), tuple)
                for day in range(run[0], run[1] + 1):
                    self.assertEqual(order_by_hand(office, plan, day), run[2])
            for run, other in zip(runs, runs[1:]):
                self.assertNotEqual(run[2], other[2])

    def test_one_day_and_400_days_and_401(self):
        for day in (-FAR, -17, 0, FAR):
            self.assertEqual(stretches(OFFICE, PLAN, day, day), [(day, day, order_by_hand(OFFICE, PLAN, day))])
        for first in (-FAR, -200, 0, FAR - 400):
            runs = stretches(OFFICE, PLAN, first, first + 400)
            self.assertEqual((runs[0][0], runs[-1][1]), (first, first + 400))
            for last in (first + 401, first - 1):
                if last <= FAR and last >= -FAR:
                    with self.assertRaises(BadStretch):
                        stretches(OFFICE, PLAN, first, last)

    def test_bad_days_come_first(self):
        for first, last in [(FAR + 1, FAR), (-FAR - 1, FAR), (5, FAR + 1), (0, None), (None, 0), (True, 0), (0, True)]:
            with self.assertRaises(BadDay):
                stretches(OFFICE, PLAN, first, last)


class NextChange(unittest.TestCase):
    def test_against_trying_days(self):
        for office, plan in some_offices(120, 127):
            for day in [-170, -61, -30, -7, 0, 29, 31, 40]:
                order = order_by_hand(office, plan, day)
                wanted = next((at for at in range(day, 80) if order_by_hand(office, plan, at) != order), None)
                self.assertEqual(next_change(office, plan, day), wanted)

    def test_far_days(self):
        for office, plan in some_offices(60, 128):
            for day in [-FAR, -FAR + 7, -10 ** 9, 10 ** 9, FAR]:
                order = order_by_hand(office, plan, day)
                turn = range(day + 1, day + 13)
                # Where a whole turn has one order, all days have it until the spans come near.
                later = turn if day > 0 else itertools.chain(turn, range(-150, 80))
                wanted = next((at for at in later if order_by_hand(office, plan, at) != order), None)
                self.assertEqual(next_change(office, plan, day), wanted)

    def test_near_the_spans_alone(self):
        office = (HOUSE, MODE, (("a", ("o", ((-30, 30),), ())),))
        plan = ((("shut", 0), ("a",)), (("shut", 1), ("+",)))
        for day in (-FAR, -1000, -32, -31):
            self.assertEqual(next_change(office, plan, day), -30)
        self.assertEqual(next_change(office, plan, -30), 30)
        self.assertEqual(next_change(office, plan, 29), 30)
        for day in (30, 31, 1000, FAR):
            self.assertIsNone(next_change(office, plan, day))

    def test_a_later_day_beyond_the_bounds(self):
        office = (HOUSE, MODE, (("a", ("o-", (), ())),))
        plan = ((("shut", 0), ("+",)), (("shut", 1), ("a",)))
        self.assertEqual(order_at(office, plan, FAR), (1, 0))
        self.assertEqual(next_change(office, plan, FAR), FAR + 1)


if __name__ == "__main__":
    unittest.main()
