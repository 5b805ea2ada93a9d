"""What can be seen for all starting days, and which steps can be left out."""

import itertools
import random
import unittest

from plan_samples import PLAN, OFFICE, found_by, order_by_hand, some_offices
from samples import FAR
from sight_samples import (
    NEAR,
    day_by_day,
    orders_near,
    plan_sources,
    sees_by_steps,
    small_office,
    some_paper_offices,
    without,
)

from officepapers.errors import BadStep
from officepapers.ever import ever_idle, ever_look, ever_sees, idle_steps, least_cuts
from officepapers.plans import order_at
from officepapers.sight import can_see, look_sources


def nearest_days(answers):
    """The nearest day of each answer, of a dict of answers by days, those nearest to 0 first."""
    nearest = {}
    for day, answer in answers.items():
        nearest.setdefault(answer, day)
    return nearest


class EverSees(unittest.TestCase):
    def test_against_trying_all_days_near_and_turns_beyond(self):
        words = []
        for office, plan in some_paper_offices(60, 231):
            orders = orders_near(office, plan)
            for person, path in itertools.product(range(office[0][0]), (0, 1)):
                for source in plan_sources(office, plan, path):
                    seen = {
                        order: sees_by_steps(office, plan, order, person, path, source)
                        for order in set(orders.values())
                    }
                    nearest = nearest_days({day: seen[orders[day]] for day in NEAR})
                    word = "sometimes" if len(nearest) == 2 else "always" if True in nearest else "never"
                    told = ever_sees(office, plan, person, path, source)
                    self.assertEqual(told, (word, nearest.get(True), nearest.get(False)))
                    self.assertIs(type(told), tuple)
                    words.append(word)
        self.assertEqual(set(words), {"always", "never", "sometimes"})
        self.assertGreater(words.count("sometimes"), 15)

    def test_against_can_see_for_days_far_away(self):
        chance = random.Random(232)
        for office, plan in some_paper_offices(60, 233):
            for person, path in itertools.product(range(office[0][0]), (0, 1)):
                for source in plan_sources(office, plan, path):
                    word = ever_sees(office, plan, person, path, source)[0]
                    for day in [FAR - 7, -FAR + 3, chance.randint(-FAR, FAR), chance.randint(-60, 60)]:
                        seen = can_see(office, plan, day, person, path, source)
                        self.assertIn(word, ("always" if seen else "never", "sometimes"))

    def test_always_and_never_tell_one_day_alone(self):
        office = small_office()
        self.assertEqual(ever_sees(office, (), 0, 0, ("first", 2)), ("always", 0, None))
        self.assertEqual(ever_sees(office, (), 1, 0, ("first", 2)), ("never", None, 0))

    def test_the_day_above_0_of_two_equally_near_ones(self):
        plan = ((("write", 0, 0), ("a",)), (("bar", 0, ("p", 0)), ()))
        for closed, wanted in [
            (((-9, -9), (9, 9)), ("sometimes", 0, 9)),
            (((-9, -9), (10, 10)), ("sometimes", 0, -9)),
            (((-30, 30), (-30, -30)), None),
        ]:
            office = small_office(book=(("a", ("o", tuple(sorted(closed)), ())),))
            if wanted is None:
                wanted = ("sometimes", 31, 0)
            self.assertEqual(ever_sees(office, plan, 0, 0, ("written", 0)), wanted)

    def test_days_beyond_the_spans_alone(self):
        plan = ((("write", 0, 0), ("a",)), (("bar", 0, ("p", 0)), ()))
        office = small_office(book=(("a", ("oo--", (), ((-30, 30),))),))
        self.assertEqual(ever_sees(office, plan, 0, 0, ("written", 0)), ("sometimes", 0, 31))


class EverLook(unittest.TestCase):
    def test_against_trying_all_days_near_and_turns_beyond(self):
        counts = set()
        for office, plan in some_paper_offices(70, 234, looks=4) + some_offices(40, 235):
            orders = orders_near(office, plan)
            for number, (deed, _) in enumerate(plan):
                if deed[0] != "look":
                    continue
                found = {order: found_by(office, plan, order, number) for order in set(orders.values())}
                nearest = nearest_days({day: found[orders[day]] for day in NEAR})
                wanted = [(None, nearest.pop(None))] if None in nearest else []
                told = ever_look(office, plan, number)
                self.assertIs(type(told), list)
                self.assertEqual(told, wanted + sorted(nearest.items()))
                counts.add((len(told), told[0][0] is None))
                for sources, day in told:
                    self.assertEqual(look_sources(office, plan, day, number), sources)
        self.assertGreater(len(counts), 3)

    def test_none_stands_ahead_of_the_lists_and_of_the_empty_one(self):
        office = small_office(book=(("a", ("o---", (), ())), ("b", ("-o--", (), ()))))
        plan = ((("look", 0, 0, 0), ("+",)), (("bar", 0, ("p", 0)), ("a",)), (("throw", 0, 0), ("b",)))
        first = (("first", 0),)
        self.assertEqual([order_at(office, plan, day) for day in range(4)], [(1, 0, 2), (2, 0, 1), (0, 1, 2), (0, 1, 2)])
        self.assertEqual([look_sources(office, plan, day, 0) for day in range(4)], [None, (), first, first])
        self.assertEqual(ever_look(office, plan, 0), [(None, 0), ((), 1), (first, -1)])

    def test_steps_that_are_no_looks(self):
        for number in range(len(PLAN)):
            if number in (1, 6):
                self.assertTrue(ever_look(OFFICE, PLAN, number))
            else:
                with self.assertRaises(BadStep):
                    ever_look(OFFICE, PLAN, number)


def cuts_by_hand(office, plan, order, person, path, source):
    """The least cuts, tried one after the other."""
    own = [source[1]] if source[0] == "written" else []
    numbers = [number for number in range(len(plan)) if number not in own]
    for many in range(3):
        found = [
            cut for cut in itertools.combinations(numbers, many)
            if not sees_by_steps(office, plan, without(order, *cut), person, path, source)
        ]
        if found:
            return found
    return []


class LeastCuts(unittest.TestCase):
    def test_against_leaving_out_each_step_and_each_two(self):
        chance = random.Random(236)
        lengths = []
        for office, plan in some_paper_offices(45, 237, most=7, sizes=(2, 3)):
            day = chance.choice([0, 3, -20, FAR])
            order = order_by_hand(office, plan, day)
            person, path = chance.randrange(office[0][0]), chance.randrange(2)
            for source in plan_sources(office, plan, path):
                told = least_cuts(office, plan, day, person, path, source)
                self.assertIs(type(told), list)
                self.assertEqual(told, cuts_by_hand(office, plan, order, person, path, source))
                lengths.append(len(told[0]) if told else None)
        self.assertEqual(set(lengths), {None, 0, 1, 2})

    def test_where_the_person_cannot_see_it_anyhow(self):
        self.assertEqual(least_cuts(small_office(), day_by_day(("shut", 0)), 0, 1, 0, ("first", 0)), [()])
        self.assertEqual(least_cuts(small_office(), (), 0, 1, 0, ("first", 0)), [()])

    def test_where_two_are_not_enough(self):
        office = small_office(((2, ("p", 1), "allow"),))
        copies = [("over", 0, 2), ("under", 0, 2), ("over", 0, 2)]
        source = ("first", 0)
        self.assertEqual(least_cuts(office, day_by_day(*copies), 0, 1, 0, source), [])
        self.assertEqual(least_cuts(office, day_by_day(*copies[:2]), 0, 1, 0, source), [(0, 1)])
        self.assertEqual(least_cuts(office, day_by_day(*copies[:1]), 0, 1, 0, source), [(0,)])
        self.assertEqual(least_cuts(office, (), 0, 1, 0, source), [()])
        self.assertEqual(least_cuts(office, (), 0, 1, 0, ("first", 2)), [])

    def test_the_writing_of_the_source_is_never_left_out(self):
        office = small_office(((2, ("p", 1), "allow"),))
        plan = day_by_day(("write", 0, 0), ("over", 0, 1), ("over", 1, 2), ("look", 1, 2, 0))
        self.assertEqual(least_cuts(office, plan, 0, 1, 0, ("written", 0)), [(1,), (2,)])
        self.assertEqual(least_cuts(office, plan, 0, 1, 0, ("first", 1)), [()])
        self.assertEqual(least_cuts(office, plan, 0, 1, 0, ("first", 2)), [])
        plan = day_by_day(("write", 2, 0))
        self.assertEqual(least_cuts(office, plan, 0, 1, 0, ("written", 0)), [])
        plan = day_by_day(("over", 1, 2), ("write", 1, 0))
        self.assertEqual(least_cuts(office, plan, 0, 1, 0, ("first", 1)), [(0,)])
        self.assertEqual(least_cuts(office, plan, 0, 1, 0, ("written", 1)), [()])

    def test_the_others_are_told_as_ahead(self):
        # Behind the step that is left out the written source is still told by its number.
        office = small_office(((2, ("p", 1), "allow"),))
        plan = day_by_day(("shut", 0), ("throw", 0, 0), ("write", 0, 0), ("write", 0, 0), ("over", 0, 2))
        self.assertEqual(least_cuts(office, plan, 0, 1, 0, ("written", 3)), [(4,)])
        self.assertEqual(least_cuts(office, plan, 0, 1, 0, ("written", 2)), [()])

    def test_a_step_that_hides_more_when_it_is_there(self):
        # Without the throwing the first paper is seen later, too.
        office = small_office(((0, ("p", 0), "allow"), (0, ("p", 1), "bar")))
        plan = day_by_day(("over", 0, 1), ("clear", 0, ("p", 1)), ("allow", 0, ("p", 1)), ("throw", 0, 0))
        self.assertEqual(least_cuts(office, plan, 0, 1, 0, ("first", 0)), [(2,)])


def idle_by_hand(office, plan, order):
    looks = [number for number, (deed, _) in enumerate(plan) if deed[0] == "look"]
    others = [number for number in range(len(plan)) if number not in looks]
    found = [found_by(office, plan, order, look) for look in looks]
    return [
        number for number in others
        if [found_by(office, plan, without(order, number), look) for look in looks] == found
    ]


class IdleSteps(unittest.TestCase):
    def test_against_leaving_out_each_step(self):
        counts = set()
        for office, plan in some_paper_offices(60, 238, looks=4) + some_offices(60, 239, sizes=(1, 2, 3)):
            for day in (0, 4, -35):
                told = idle_steps(office, plan, day)
                self.assertIs(type(told), list)
                self.assertEqual(told, idle_by_hand(office, plan, order_by_hand(office, plan, day)))
                counts.add((len(told), len(plan)))
        self.assertGreater(len(counts), 20)

    def test_none_and_the_empty_list_are_unlike(self):
        office = small_office()
        plan = day_by_day(("throw", 0, 0), ("bar", 0, ("p", 0)), ("look", 0, 0, 0))
        # Behind the bar the throwing makes nothing unlike; without the bar the look finds an empty list.
        self.assertEqual(idle_steps(office, plan, 0), [0])
        plan = day_by_day(("throw", 0, 0), ("throw", 0, 0), ("look", 0, 0, 0))
        self.assertEqual(idle_steps(office, plan, 0), [0, 1])

    def test_plans_without_looks(self):
        office = small_office()
        plan = day_by_day(("throw", 0, 0), ("write", 0, 0), ("bar", 0, ("p", 0)))
        self.assertEqual(idle_steps(office, plan, 0), [0, 1, 2])
        self.assertEqual(ever_idle(office, plan), [0, 1, 2])
        self.assertEqual([idle_steps(office, (), 0), ever_idle(office, ())], [[], []])
        looks = day_by_day(("look", 0, 0, 0), ("look", 1, 0, 0))
        self.assertEqual([idle_steps(office, looks, 0), ever_idle(office, looks)], [[], []])

    def test_steps_behind_all_looks(self):
        office = small_office()
        plan = day_by_day(("write", 0, 0), ("look", 0, 0, 0), ("write", 0, 0), ("bar", 0, ("p", 0)))
        self.assertEqual(idle_steps(office, plan, 0), [2, 3])


class EverIdle(unittest.TestCase):
    def test_against_all_days_near_and_turns_beyond(self):
        told_less = 0
        for office, plan in some_paper_offices(60, 240, looks=4):
            orders = orders_near(office, plan)
            idle = [set(idle_by_hand(office, plan, order)) for order in set(orders.values())]
            told = ever_idle(office, plan)
            self.assertIs(type(told), list)
            self.assertEqual(told, sorted(set.intersection(*idle)))
            told_less += len(idle) > 1 and len(told) < max(len(one) for one in idle)
        self.assertGreater(told_less, 3)

    def test_orders_that_change_with_the_starting_day(self):
        office = small_office(book=(("a", ("oo-", (), ())),))
        plan = ((("write", 0, 0), ("+",)), (("look", 0, 0, 0), ("a",)), (("write", 1, 0), ()))
        self.assertEqual([idle_steps(office, plan, day) for day in range(4)], [[0, 2], [0, 2], [2], [0, 2]])
        self.assertEqual(ever_idle(office, plan), [2])


if __name__ == "__main__":
    unittest.main()
