"""What holds over the whole program: the main property, and the example of the document, sentence by sentence."""

import random
import unittest

from copy_samples import all_contents
from plan_samples import order_by_hand, papers_after, sees_after
from samples import FAR, some_moves
from sight_samples import plan_sources, some_paper_offices

from officepapers.calendars import is_open
from officepapers.desk import Desk
from officepapers.ever import ever_sees
from officepapers.live import Live
from officepapers.moments import lists_at
from officepapers.plans import history, order_at
from officepapers.routes import moved
from officepapers.sight import can_see, look_shows, look_sources, sight_holds, sight_paper, sights
from officepapers.texts import read_plan, show_plan

MODE = ("bar", "keeps", "now", True)
HOUSE = (2, (0,), (False, False), ((0, ("p", 1), "allow"),), ())
OFFICE = (HOUSE, MODE, (("a", ("oo-", (), ())),))
PLAN = ((("over", 1, 0), ("+", "a")), (("bar", 0, ("p", 1)), ("a",)))


class MainProperty(unittest.TestCase):
    def test_routes_never_turn_days_round(self):
        for book, route in some_moves(80, 401):
            for start in (-130, -FAR, 100, FAR - 60):
                days = [moved(book, route, day) for day in range(start, start + 60)]
                self.assertEqual(days, sorted(days))

    def test_orders_come_again_with_the_common_period(self):
        for office, plan in some_paper_offices(60, 402):
            for day in list(range(101, 125)) + list(range(-125, -101)):
                order = order_at(office, plan, day)
                for turns in (1, 7, 10 ** 12):
                    self.assertEqual(order_at(office, plan, day + 12 * turns if day > 0 else day - 12 * turns), order)

    def test_what_stands_is_the_first_source_of_the_list_that_there_is(self):
        for office, plan in some_paper_offices(60, 403):
            size = len(office[0][2])
            order = order_by_hand(office, plan, 3)
            for moment in range(len(plan) + 1):
                for path in (0, 1):
                    lists = lists_at(office, plan, 3, moment, path)
                    for contents in all_contents(size):
                        papers = papers_after(office, plan, order[:moment], contents)
                        for folder in range(size):
                            there = [source for source in lists[folder] if source[0] == "written" or source[1] in contents]
                            self.assertEqual(papers.get((folder, path)), there[0] if there else None)

    def test_a_source_is_seen_for_some_first_contents_exactly_if_it_is_in_the_list(self):
        found = set()
        for office, plan in some_paper_offices(50, 404):
            size = len(office[0][2])
            for day in (0, 5):
                order = order_by_hand(office, plan, day)
                for person in range(office[0][0]):
                    shown = set()
                    for moment in range(len(plan) + 1):
                        for contents in all_contents(size):
                            papers = papers_after(office, plan, order[:moment], contents)
                            for folder in range(size):
                                if sees_after(office, plan, order[:moment], person, folder):
                                    shown.add(papers.get((folder, 1)))
                    for source in plan_sources(office, plan, 1):
                        wanted = source in shown
                        self.assertIs(can_see(office, plan, day, person, 1, source), wanted)
                        self.assertIs(sight_paper(office, plan, day, person, 1, source) is None, not wanted)
                        found.add(wanted)
        self.assertEqual(found, {True, False})

    def test_an_office_that_goes_on_is_its_plan(self):
        chance = random.Random(405)
        for office, plan in some_paper_offices(40, 406):
            # The plan of a live office does its steps in their order, whatever its starting day.
            live = Live(office, 0)
            letters = [name for name, _ in office[2]] + ["+"]
            for deed, _ in plan:
                live.wait(chance.choice(letters))
                if deed[0] == "look":
                    live.look(*deed[1:])
                else:
                    live.do(deed)
            told = live.plan()
            self.assertEqual(read_plan(office, show_plan(told)), told)
            for day in (0, -13, FAR):
                other = live.with_start(day)
                self.assertEqual(other.plan(), told)
                self.assertEqual(order_at(office, told, day), tuple(range(len(plan))))
                for number, entry in enumerate(entry for entry in other if entry[0] == "look"):
                    looks = [at for at, (deed, _) in enumerate(told) if deed[0] == "look"]
                    self.assertEqual(look_sources(office, told, day, looks[number]), entry[4])


class Example(unittest.TestCase):
    def seen(self, day):
        """The moments and folders in which person 1 can come to see the first paper of folder 1 at the path 0."""
        return [(moment, folder) for source, moment, folder in sights(OFFICE, PLAN, day, 1, 0) if source == ("first", 1)]

    def test_the_days_that_leave_2_by_3_are_closed(self):
        for day in range(-40, 41):
            self.assertIs(is_open(OFFICE[2][0][1], day), day % 3 != 2)

    def test_for_the_starting_day_0(self):
        self.assertEqual(history(OFFICE, PLAN, 0), [(0, 1), (1, 0)])
        self.assertEqual(self.seen(0), [(0, 1)])

    def test_for_1(self):
        self.assertEqual(history(OFFICE, PLAN, 1), [(1, 1), (3, 0)])
        self.assertEqual(self.seen(1), [(0, 1)])

    def test_for_2(self):
        self.assertEqual(history(OFFICE, PLAN, 2), [(3, 0), (3, 1)])
        self.assertEqual(self.seen(2), [(0, 1), (1, 0), (1, 1)])
        paper = (1, 0, (1,), (0,), ("sees", 0, ("p", 1), ()))
        self.assertIs(sight_holds(OFFICE, PLAN, 2, 1, 0, ("first", 1), paper), True)
        self.assertIs(sight_holds(OFFICE, PLAN, 0, 1, 0, ("first", 1), paper), False)

    def test_with_a_look(self):
        plan = PLAN + ((("look", 1, 0, 0), ("+", "a")),)
        self.assertEqual([look_sources(OFFICE, plan, day, 2) for day in range(3)], [None, None, None])
        plan = (PLAN[0], (("look", 1, 0, 0), ("+", "a")), PLAN[1])
        self.assertEqual([look_sources(OFFICE, plan, day, 1) for day in range(3)], [None, None, (("first", 1), ("first", 0))])
        self.assertEqual(look_shows(OFFICE, plan, 2, 1, (0,)), ("first", 0))
        self.assertEqual(ever_sees(OFFICE, plan, 1, 0, ("first", 1)), ("always", 0, None))

    def test_in_a_live_office(self):
        live = Live(OFFICE, 2)
        self.assertEqual(live.wait("+", "a"), 3)
        live.do(("over", 1, 0))
        self.assertIs((1, 0) in live, True)
        live.do(("bar", 0, ("p", 1)))
        self.assertIs((1, 0) in live, False)
        seen = [(place, folder) for source, place, folder in live.seen(1, 0) if source == ("first", 1)]
        self.assertEqual(seen, self.seen(2))
        self.assertEqual(live.plan(), (PLAN[0], (PLAN[1][0], ("+", "a"))))

    def test_at_the_desk(self):
        desk = Desk()
        rows = ["calendar a oo-", "start 2", "do allow 0 p1", "wait + a", "do over 1 0", "can 1 0 f1", "do bar 0 p1"]
        self.assertEqual([desk.say(row) for row in rows], ["ok", "ok", "ok", "3", "ok", "yes", "ok"])
        rows = ["plan", "look 1 0 0", "look 1 1 0", "list 0 0", "why 1 1", "order 0"]
        self.assertEqual([desk.say(row) for row in rows], [
            "allow 0 p1 : . ; over 1 0 : + a ; bar 0 p1 : + a",
            "barred",
            "barred",
            "f1 f0",
            "barred",
            "0 1 2 3 4",
        ])


if __name__ == "__main__":
    unittest.main()
