"""What a live office keeps: its log and plan, other starting days, its entries, and copies of it."""

import itertools
import random
import unittest

from live_samples import HOUSE, OFFICE, ByHand, ask, live_after, some_works
from samples import BAD_DAYS, FAR, OTHERS, Odd, move_by_hand

from officepapers.errors import BadDay, BadPlace, TooMany
from officepapers.live import Live
from officepapers.plans import history, is_plan

WORK = [
    ("wait", ("a", "a")),
    ("do", ("write", 0, 1)),
    ("wait", ()),
    ("wait", ("a", "+")),
    ("look", ("look", 1, 0, 1)),
    ("look", ("look", 2, 0, 1)),
    ("wait", ("+", "k")),
    ("do", ("allow", 3, ("g", 2))),
]


class Logs(unittest.TestCase):
    def test_each_kind_of_entry(self):
        live = live_after(Live, OFFICE, 1, WORK)
        self.assertIs(type(live.log()), list)
        first, second, third = (move_by_hand(OFFICE[2], letters, 1) for letters in ["aa", "aaa+", "aaa++k"])
        self.assertEqual(live.log(), [
            ("wait", ("a", "a")),
            ("do", ("write", 0, 1), first),
            ("wait", ()),
            ("wait", ("a", "+")),
            ("look", 1, 0, 1, (("written", 0),), second),
            ("look", 2, 0, 1, None, second),
            ("wait", ("+", "k")),
            ("do", ("allow", 3, ("g", 2)), third),
        ])
        self.assertEqual(live.day, third)

    def test_a_returned_log_may_be_changed(self):
        live = live_after(Live, OFFICE, 1, WORK)
        kept = live.log()
        for entries in (live.log(), list(live), live.seen(1, 1), live.find((10, 11, (4, 3, 2, 1), 0), (0, 0, 0, 0))):
            entries.append(None)
            entries[0] = None
        self.assertEqual(live.log(), kept)
        self.assertEqual(live.log(), live.log())
        self.assertEqual(live.seen(1, 1), live.seen(1, 1))
        self.assertNotIn(None, live.seen(1, 1))
        self.assertEqual(live.find((10, 11, (4, 3, 2, 1), 0), (0, 0, 0, 0)), [(0, 0)])


class Plans(unittest.TestCase):
    def test_against_the_letters_waited_ahead(self):
        told, too_long = 0, 0
        for office, work in some_works(120, 361, 14):
            live, by_hand = live_after(Live, office, -2, work), ByHand(office, -2)
            by_hand.asked = work
            wanted = by_hand.plan()
            if len(wanted) > 8 or any(len(route) > 8 for _, route in wanted):
                with self.assertRaises(TooMany):
                    live.plan()
                too_long += 1
                continue
            plan = live.plan()
            self.assertEqual(plan, wanted)
            self.assertIs(is_plan(office, plan), True)
            days = [entry[-1] for entry in live.log() if entry[0] != "wait"]
            self.assertEqual(history(office, plan, -2), list(zip(days, range(len(days)))))
            told += 1
        self.assertGreater(min(told, too_long), 25)

    def test_waits_are_reduced_together(self):
        live = live_after(Live, OFFICE, 0, WORK)
        self.assertEqual(live.plan(), (
            (("write", 0, 1), ("a",)),
            (("look", 1, 0, 1), ("a", "+")),
            (("look", 2, 0, 1), ("a", "+")),
            (("allow", 3, ("g", 2)), ("a", "+", "+", "k")),
        ))

    def test_eight_steps_and_nine(self):
        live = Live(OFFICE, 0)
        for at in range(8):
            ask(live, *[("do", ("shut", 0)), ("look", ("look", 0, 0, 0))][at % 2])
            live.wait()
        self.assertEqual(len(live.plan()), 8)
        live.look(0, 0, 0)
        with self.assertRaises(TooMany):
            live.plan()
        live.undo()
        self.assertEqual(len(live.plan()), 8)

    def test_eight_letters_and_nine(self):
        live = Live(OFFICE, 0)
        for _ in range(4):
            live.wait("+")
            live.wait("a")
            live.wait("a")
        live.do(("shut", 0))
        self.assertEqual(live.plan(), ((("shut", 0), ("+", "a") * 4),))
        live.wait("a")
        live.do(("shut", 1))
        self.assertEqual([len(route) for _, route in live.plan()], [8, 8])
        # Letters behind the last step do not count.
        live.wait("k", "+", "+")
        self.assertEqual(len(live.plan()), 2)
        live.look(0, 0, 0)
        with self.assertRaises(TooMany):
            live.plan()


class OtherStarts(unittest.TestCase):
    def test_against_asking_the_same_one_by_one(self):
        chance = random.Random(362)
        for office, work in some_works(60, 363, 14):
            live = live_after(Live, office, 2, work)
            kept = live.log()
            for day in [2, chance.randint(-40, 40), FAR, -FAR]:
                other = live.with_start(day)
                wanted = live_after(Live, office, day, work)
                self.assertEqual(other, wanted)
                self.assertEqual(other.log(), wanted.log())
                self.assertEqual((other.day, other.state(), other.office), (wanted.day, wanted.state(), office))
                self.assertEqual([other.lists(path) for path in range(4)], [live.lists(path) for path in range(4)])
                other.wait("+")
                other.do(("throw", 0, 0))
            self.assertEqual(live.log(), kept)

    def test_the_same_order_on_other_days(self):
        live = live_after(Live, OFFICE, 0, WORK)
        other = live.with_start(day=7)
        self.assertEqual([entry[:-1] for entry in other.log() if entry[0] != "wait"], [
            entry[:-1] for entry in live.log() if entry[0] != "wait"
        ])
        self.assertNotEqual(other, live)
        self.assertEqual(other.with_start(0), live)

    def test_bad_days(self):
        live = live_after(Live, OFFICE, 0, WORK)
        for day in BAD_DAYS:
            with self.assertRaises(BadDay):
                live.with_start(day)

    def test_a_present_day_beyond_the_range(self):
        live = live_after(Live, OFFICE, FAR, WORK)
        self.assertGreater(live.day, FAR)
        self.assertEqual(live.with_start(0).day, live_after(Live, OFFICE, 0, WORK).day)


class Entries(unittest.TestCase):
    def test_how_many_and_each(self):
        for many in range(len(WORK) + 1):
            live = live_after(Live, OFFICE, 0, WORK[:many])
            self.assertEqual(len(live), many)
            self.assertEqual([live[at] for at in range(many)], live.log())
            self.assertEqual(list(live), live.log())
            self.assertEqual([entry for entry in live], live.log())
            self.assertEqual(list(iter(live)), live.log())
            for at in [many, many + 1, -1, -many, -many - 1, 10 ** 59]:
                with self.assertRaises(BadPlace):
                    live[at]

    def test_what_is_no_place(self):
        live = live_after(Live, OFFICE, 0, WORK)
        for thing in OTHERS + ["1", (1,), (), slice(0, 2), slice(None), ("wait", ()), Odd()]:
            with self.assertRaises(BadPlace) as caught:
                live[thing]
            self.assertIs(type(caught.exception), BadPlace)

    def test_who_sees_which_folder_now(self):
        live = Live(OFFICE, 0)
        sees = [(person, folder) for person in range(3) for folder in range(4) if (person, folder) in live]
        self.assertEqual(sees, [(0, 2), (1, 0), (1, 1), (1, 3)])
        self.assertIs((1, 0) in live, True)
        self.assertIs((2, 0) in live, False)
        live.do(("bar", 1, ("p", 1)))
        self.assertIs((1, 1) in live, False)
        live.undo()
        self.assertIs((1, 1) in live, True)

    def test_objects_that_are_no_such_tuple(self):
        live = Live(OFFICE, 0)
        self.assertIs((1, 0) in live, True)
        live.wait("+")
        for thing in OTHERS + [
            5,
            1,
            (),
            (1,),
            (1, 0, 0),
            [1, 0],
            "10",
            (True, 0),
            (1, False),
            ("1", 0),
            (("p", 1), 0),
            (3, 0),
            (-1, 0),
            (1, 4),
            (1, -1),
            (1, None),
            (None, 0),
            (Odd(), 0),
            (1, Odd()),
            (Odd(), Odd()),
            ("wait", ("+",)),
            ((1, 0),),
            live,
        ]:
            self.assertIs(thing in live, False, thing)


class Equality(unittest.TestCase):
    def test_two_that_came_about_in_other_ways(self):
        live = live_after(Live, OFFICE, 0, WORK)
        other = Live(OFFICE, 0)
        for at, (word, thing) in enumerate(WORK):
            other.do(("write", 1, 1))
            other.wait("+", "+")
            other.undo()
            other.undo()
            ask(other, word, thing)
        self.assertEqual(live, other)
        self.assertEqual(live.log(), other.log())
        self.assertIs(live == other, True)
        self.assertIs(live != other, False)

    def test_look_entries_are_left_out(self):
        live = live_after(Live, OFFICE, 0, WORK)
        without = live_after(Live, OFFICE, 0, [one for one in WORK if one[0] != "look"])
        self.assertIs(live == without, True)
        self.assertNotEqual(live.log(), without.log())
        without.look(0, 0, 0)
        self.assertIs(live == without, True)
        more = Live(OFFICE, 0)
        more.look(0, 0, 0)
        self.assertIs(more == Live(OFFICE, 0), True)

    def test_what_makes_them_unlike(self):
        live = live_after(Live, OFFICE, 0, WORK)
        others = [
            live_after(Live, OFFICE, 1, WORK),
            live_after(Live, (HOUSE, ("bar", "keeps", "now", True), OFFICE[2]), 0, WORK),
            live_after(Live, OFFICE, 0, WORK[:-1]),
            live_after(Live, OFFICE, 0, WORK + [("wait", ())]),
            live_after(Live, OFFICE, 0, [("wait", ("a",))] + WORK[1:]),
            live_after(Live, OFFICE, 0, WORK[:2] + WORK[3:]),
            live_after(Live, OFFICE, 0, [("wait", ()), *WORK[:2], *WORK[3:]]),
            live_after(Live, OFFICE, 0, WORK[:-1] + [("do", ("allow", 3, ("g", 1)))]),
            Live(OFFICE, 0),
        ]
        for one, other in itertools.combinations([live, *others], 2):
            self.assertIs(one == other, False)
            self.assertIs(one != other, True)
        # On the same days, but waited for in another way.
        self.assertIs(live_after(Live, OFFICE, 0, [("wait", ("+", "+"))]) == live_after(Live, OFFICE, 0, [("wait", ("+",))] * 2), False)

    def test_other_objects(self):
        live = live_after(Live, OFFICE, 0, WORK)
        for thing in OTHERS + [5, (), OFFICE, live.log(), tuple(live), live.plan(), (OFFICE, 0), "live", Odd(), Live]:
            self.assertIs(live == thing, False, thing)
            self.assertIs(live != thing, True, thing)
        self.assertIs(live == live, True)


class Copies(unittest.TestCase):
    def test_a_copy_is_equal_and_has_the_same_log(self):
        for office, work in some_works(40, 364, 14):
            live = live_after(Live, office, 4, work)
            other = live.copy()
            self.assertIs(type(other), Live)
            self.assertIsNot(other, live)
            self.assertEqual(other, live)
            self.assertEqual(other.log(), live.log())
            self.assertEqual((other.day, other.state(), other.office), (live.day, live.state(), live.office))
            self.assertEqual([other.lists(path) for path in range(4)], [live.lists(path) for path in range(4)])
            for person in range(office[0][0]):
                self.assertEqual(other.seen(person, 0), live.seen(person, 0))

    def test_what_is_done_to_one_changes_the_other_one_in_nothing(self):
        for at in (0, 1):
            pair = [live_after(Live, OFFICE, 0, WORK)]
            pair.append(pair[0].copy())
            one, other = pair[at], pair[1 - at]
            kept = (other.log(), other.day, other.state(), other.lists(1), len(other), other.plan())
            one.wait("+", "+")
            one.do(("throw", 0, 1))
            one.do(("bar", 0, ("p", 1)))
            one.look(0, 0, 0)
            self.assertEqual((other.log(), other.day, other.state(), other.lists(1), len(other), other.plan()), kept)
            for _ in range(len(one)):
                one.undo()
            self.assertEqual((other.log(), other.day, other.state(), other.lists(1), len(other), other.plan()), kept)
            self.assertEqual(one, Live(OFFICE, 0))
            self.assertNotEqual(one, other)

    def test_a_copy_is_undone_to_the_beginning(self):
        live = live_after(Live, OFFICE, 3, WORK)
        other = live.copy()
        while len(other):
            other.undo()
        self.assertEqual((other.day, other), (3, Live(OFFICE, 3)))


if __name__ == "__main__":
    unittest.main()
