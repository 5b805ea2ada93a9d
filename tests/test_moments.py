import itertools
import random
import unittest

from copy_samples import all_deeds
from house_samples import HOUSE, MODE, all_right_deeds, sees_by_hand
from plan_samples import (
    LONG_PLAN,
    OFFICE,
    PLAN,
    found_by,
    history_by_hand,
    lists_after,
    order_by_hand,
    some_offices,
    state_by_hand,
)
from samples import FAR, PLAIN

from officepapers.copies import lists_of
from officepapers.errors import BadMoment
from officepapers.moments import alike_days, day_at, lists_at, script_at, state_at, swap_steps
from officepapers.plans import history, order_at

DAYS = [-FAR, -40, -3, 0, 1, 2, 5, 31, FAR]


def outcome_by_hand(office, plan, numbers, pair):
    lists = [lists_after(office, plan, numbers, path) for path in range(4)]
    looks = {number: found_by(office, plan, numbers, number) for number in pair if plan[number][0][0] == "look"}
    return state_by_hand(office, plan, numbers), lists, looks


class Moments(unittest.TestCase):
    def test_against_doing_the_steps_one_by_one(self):
        chance = random.Random(171)
        for office, plan in some_offices(120, 172):
            for day in chance.sample(DAYS, 3):
                order = order_by_hand(office, plan, day)
                for moment in range(len(plan) + 1):
                    state = state_at(office, plan, day, moment)
                    self.assertEqual(state, state_by_hand(office, plan, order[:moment]))
                    self.assertIs(type(state), tuple)
                    for path in (0, 1, 3):
                        lists = lists_at(office, plan, day, moment, path)
                        self.assertEqual(lists, lists_after(office, plan, order[:moment], path))
                        self.assertEqual({type(sources) for sources in (lists, *lists)}, {tuple})

    def test_days_and_scripts(self):
        for office, plan in some_offices(120, 173):
            size = len(office[0][2])
            for day in DAYS:
                told = history_by_hand(office, plan, day)
                self.assertIsNone(day_at(office, plan, day, 0))
                self.assertEqual(script_at(office, plan, day, 0), ((), ()))
                for moment in range(1, len(plan) + 1):
                    self.assertEqual(day_at(office, plan, day, moment), told[moment - 1][0])
                    numbers = [number for _, number in told[:moment] if plan[number][0] in all_deeds(size)]
                    script = tuple(plan[number][0] for number in numbers)
                    self.assertEqual(script_at(office, plan, day, moment), (script, tuple(numbers)))

    def test_the_lists_are_those_of_the_script(self):
        for office, plan in some_offices(80, 174):
            size = len(office[0][2])
            for moment in range(len(plan) + 1):
                script, numbers = script_at(office, plan, 7, moment)
                for path in range(2):
                    lists = lists_of(size, script, path)
                    told = tuple(
                        tuple(("written", numbers[at]) if word == "written" else (word, at) for word, at in sources)
                        for sources in lists
                    )
                    self.assertEqual(lists_at(office, plan, 7, moment, path), told)

    def test_written_sources_are_told_by_the_numbers_of_the_steps(self):
        plan = (
            (("over", 0, 1), ("+", "+")),
            (("shut", 1), ()),
            (("write", 0, 2), ("+",)),
            (("write", 0, 2), ()),
        )
        office = ((1, (0,), (False, False), (), ()), MODE, ())
        self.assertEqual(order_at(office, plan, 0), (1, 3, 2, 0))
        self.assertEqual(lists_at(office, plan, 0, 2, 2), ((("written", 3),), (("first", 1),)))
        self.assertEqual(lists_at(office, plan, 0, 4, 2), ((("written", 2),), (("written", 2),)))
        self.assertEqual(lists_at(office, plan, 0, 4, 1), ((("first", 0),), (("first", 0), ("first", 1))))
        self.assertEqual(script_at(office, plan, 0, 4), ((plan[3][0], plan[2][0], plan[0][0]), (3, 2, 0)))
        self.assertEqual(script_at(office, plan, 0, 1), ((), ()))

    def test_the_last_moment_and_one_more(self):
        for plan in [(), PLAN, LONG_PLAN]:
            for call in [state_at, day_at, script_at, lambda *given: lists_at(*given, 0)]:
                call(OFFICE, plan, 0, 0)
                call(OFFICE, plan, 0, len(plan))
                for moment in (-1, len(plan) + 1, len(plan) + 5):
                    with self.assertRaises(BadMoment):
                        call(OFFICE, plan, 0, moment)

    def test_the_example_of_the_document(self):
        house = (2, (0,), (False, False), ((0, ("p", 1), "allow"),), ())
        office = (house, ("bar", "keeps", "now", True), (("a", ("oo-", (), ())),))
        plan = ((("over", 1, 0), ("+", "a")), (("bar", 0, ("p", 1)), ("a",)))
        both = (("first", 1), ("first", 0))
        self.assertEqual(lists_at(office, plan, 0, 2, 0), (both, (("first", 1),)))
        sees = [[sees_by_hand(office[1], state_at(office, plan, day, k), 1, 0) for k in range(3)] for day in range(3)]
        self.assertEqual(sees, [[True, False, False], [True, False, False], [True, True, False]])
        self.assertEqual(lists_at(office, plan, 2, 1, 0)[0], both)
        self.assertEqual([day_at(office, plan, 2, moment) for moment in range(3)], [None, 3, 3])


class SwapSteps(unittest.TestCase):
    def test_against_doing_the_two_exchanged(self):
        counts = set()
        for office, plan in some_offices(120, 175, sizes=(1, 2, 3)):
            for day in (0, 4, -35):
                order = order_by_hand(office, plan, day)
                wanted = []
                for at in range(len(order) - 1):
                    pair = order[at:at + 2]
                    both = [outcome_by_hand(office, plan, order[:at] + two, two) for two in (pair, pair[::-1])]
                    if both[0] == both[1]:
                        wanted.append(pair)
                told = swap_steps(office, plan, day)
                self.assertIs(type(told), list)
                self.assertEqual(told, sorted(wanted), (office, plan, day))
                counts.add(len(told))
        self.assertGreater(len(counts), 4)

    def swaps(self, *deeds, entries=((0, ("p", 0), "allow"),), mode=("bar", "keeps", "now", True)):
        """Whether the two last deeds can be exchanged."""
        office = ((2, (0, 0), (False,) * 3, entries, ()), mode, ())
        plan = tuple((deed, ("+",) * at) for at, deed in enumerate(deeds))
        return (len(deeds) - 2, len(deeds) - 1) in swap_steps(office, plan, 0)

    def test_pairs_with_a_look(self):
        look = ("look", 0, 0, 0)
        for deed, alike in [
            (("write", 0, 0), False),
            (("write", 0, 1), True),
            (("write", 1, 0), True),
            (("throw", 0, 0), False),
            (("over", 1, 0), False),
            (("under", 1, 0), False),
            (("over", 0, 1), True),
            (("bar", 0, ("p", 0)), False),
            (("bar", 0, ("p", 1)), True),
            (("clear", 0, ("p", 0)), False),
            (("shut", 0), True),
            (("look", 1, 0, 0), True),
            (look, True),
        ]:
            self.assertIs(self.swaps(look, deed), alike, deed)
            self.assertIs(self.swaps(deed, look), alike, deed)
            # Who does not see the folder finds the same at all times.
            blind = ("look", 1, 0, 0)
            if deed[0] in ("write", "throw", "over", "under"):
                self.assertIs(self.swaps(blind, deed), True)
        # Not to see and to see nothing are unlike.
        self.assertIs(self.swaps(("throw", 0, 0), look, ("bar", 0, ("p", 0))), False)

    def test_pairs_of_deeds(self):
        for deed, other, alike in [
            (("over", 0, 1), ("over", 0, 2), True),
            (("over", 0, 1), ("over", 1, 2), False),
            (("over", 0, 1), ("over", 2, 1), False),
            (("write", 0, 0), ("write", 0, 1), True),
            (("write", 0, 0), ("write", 0, 0), False),
            (("throw", 0, 0), ("throw", 0, 0), True),
            (("throw", 0, 3), ("over", 0, 1), False),
            (("allow", 0, ("p", 0)), ("bar", 0, ("p", 0)), False),
            (("allow", 0, ("p", 0)), ("over", 0, 1), True),
            (("move", 1, 2), ("move", 2, 1), False),
            (("login", 0), ("join", 0, ("p", 0)), False),
            (("login", 0), ("join", 0, ("p", 1)), True),
        ]:
            self.assertIs(self.swaps(deed, other), alike, (deed, other))
            self.assertIs(self.swaps(other, deed), alike, (deed, other))
        # What would be unlike elsewhere may be the same here.
        self.assertIs(self.swaps(("throw", 0, 0), ("throw", 1, 0), ("over", 0, 1), ("throw", 0, 0)), True)
        self.assertIs(self.swaps(("throw", 1, 0), ("over", 0, 1), ("throw", 0, 0)), False)
        self.assertIs(self.swaps(("over", 0, 1), ("under", 0, 1), ("over", 0, 1)), True)

    def test_on_whatever_days(self):
        office = (HOUSE, MODE, (("a", PLAIN),))
        plan = ((("shut", 0), ("+",) * 8), (("shut", 1), ("a",)), (("shut", 2), ("a",)))
        self.assertEqual(history(office, plan, 0), [(0, 1), (0, 2), (8, 0)])
        self.assertEqual(swap_steps(office, plan, 0), [(1, 2), (2, 0)])

    def test_no_steps_and_one(self):
        self.assertEqual(swap_steps(OFFICE, (), 5), [])
        self.assertEqual(swap_steps(OFFICE, PLAN[:1], 5), [])


class AlikeDays(unittest.TestCase):
    def test_against_both_last_moments(self):
        found = []
        for office, plan in some_offices(120, 176):
            ends = {}
            for day in DAYS:
                order = order_by_hand(office, plan, day)
                lists = [lists_after(office, plan, order, path) for path in range(4)]
                ends[day] = (state_by_hand(office, plan, order), lists)
            for day, other in itertools.product(DAYS, DAYS[::2]):
                alike = alike_days(office, plan, day, other)
                self.assertIs(alike, ends[day] == ends[other])
                found.append(alike)
        self.assertGreater(found.count(False), 100)

    def test_the_state_and_the_lists_count(self):
        office = ((1, (0,), (False, False), (), ()), MODE, (("a", ("oo--", (), ())),))
        for deeds, alike in [
            ((("over", 0, 1), ("throw", 0, 3)), False),
            ((("allow", 0, ("p", 0)), ("bar", 0, ("p", 0))), False),
            ((("allow", 0, ("p", 0)), ("over", 0, 1)), True),
            ((("look", 0, 0, 0), ("over", 0, 1)), True),
        ]:
            plan = ((deeds[0], ("a",)), (deeds[1], ("+",)))
            self.assertEqual([order_at(office, plan, day) for day in (0, 2)], [(0, 1), (1, 0)])
            self.assertIs(alike_days(office, plan, 0, 2), alike)
            self.assertIs(alike_days(office, plan, 0, 4), True)

    def test_all_right_deeds_keep_the_papers(self):
        for deed in all_right_deeds(3, 4):
            plan = ((deed, ()),)
            self.assertEqual(lists_at(OFFICE, plan, 0, 1, 2), lists_at(OFFICE, plan, 0, 0, 2))


if __name__ == "__main__":
    unittest.main()
