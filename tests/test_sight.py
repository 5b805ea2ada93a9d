"""What a person can come to see, what looks find, and which first contents look alike."""

import random
import unittest

from copy_samples import all_contents
from house_samples import MODES
from plan_samples import found_by, order_by_hand, papers_after, some_offices
from samples import FAR
from sight_samples import (
    PAPER_PLAN,
    day_by_day,
    plan_sources,
    sees_by_steps,
    shown_by_hand,
    sights_by_hand,
    small_office,
    some_paper_offices,
)

from officepapers.errors import BadSource, BadStep
from officepapers.houses import sees
from officepapers.moments import lists_at, state_at
from officepapers.plans import order_at
from officepapers.sight import alike_contents, can_see, look_shows, look_sources, sights, sure_sights

DAYS = [-FAR, -40, -3, 0, 1, 2, 5, 31, FAR]


class Sights(unittest.TestCase):
    def test_against_doing_the_steps_one_by_one(self):
        chance = random.Random(201)
        counts = set()
        for office, plan in some_offices(50, 202) + some_paper_offices(50, 203):
            for day in chance.sample(DAYS, 2):
                order = order_by_hand(office, plan, day)
                for person in range(office[0][0]):
                    for path in (0, 1, 3):
                        found, sure = sights_by_hand(office, plan, order, person, path)
                        told = sights(office, plan, day, person, path)
                        self.assertIs(type(told), list)
                        self.assertEqual(told, found)
                        self.assertEqual(sure_sights(office, plan, day, person, path), sure)
                        counts.add(len(found))
        self.assertGreater(len(counts), 20)
        self.assertIn(0, counts)

    def test_against_the_lists_and_the_rights_at_each_moment(self):
        for office, plan in some_paper_offices(60, 204):
            house, mode, _ = office
            for day in (0, -17):
                for person in range(house[0]):
                    for path in range(4):
                        found, sure = [], []
                        for moment in range(len(plan) + 1):
                            state = state_at(office, plan, day, moment)
                            lists = lists_at(office, plan, day, moment, path)
                            for folder in range(len(house[2])):
                                if sees(house, mode, state, person, folder):
                                    found += [(source, moment, folder) for source in lists[folder]]
                                    sure += [(source, moment, folder) for source in lists[folder][:1]]
                        self.assertEqual(sights(office, plan, day, person, path), sorted(found))
                        self.assertEqual(sure_sights(office, plan, day, person, path), sorted(sure))

    def test_sources_that_stand_first_and_behind_others(self):
        plan = day_by_day(("over", 1, 0), ("under", 2, 0), ("write", 0, 2), ("under", 1, 2))
        office = small_office(((0, ("p", 0), "allow"), (1, ("p", 0), "bar"), (2, ("p", 0), "bar")))
        self.assertEqual(sights(office, plan, 0, 0, 0), [
            (("first", 0), 0, 0),
            (("first", 0), 1, 0),
            (("first", 0), 2, 0),
            (("first", 0), 3, 0),
            (("first", 0), 4, 0),
            (("first", 1), 1, 0),
            (("first", 1), 2, 0),
            (("first", 1), 3, 0),
            (("first", 1), 4, 0),
            (("first", 2), 2, 0),
            (("first", 2), 3, 0),
            (("first", 2), 4, 0),
        ])
        self.assertEqual(sure_sights(office, plan, 0, 0, 0), [
            (("first", 0), 0, 0),
            (("first", 1), 1, 0),
            (("first", 1), 2, 0),
            (("first", 1), 3, 0),
            (("first", 1), 4, 0),
        ])
        self.assertEqual(sure_sights(office, plan, 0, 0, 2)[-2:], [(("written", 2), 3, 0), (("written", 2), 4, 0)])
        self.assertEqual(sights(office, plan, 0, 1, 0), [])

    def test_the_empty_plan(self):
        office = small_office()
        self.assertEqual(sights(office, (), 5, 0, 3), [(("first", folder), 0, folder) for folder in range(3)])
        self.assertEqual(sure_sights(office, (), 5, 0, 3), sights(office, (), 5, 0, 3))
        self.assertEqual(sights(office, (), 5, 1, 3), [])
        self.assertIs(can_see(office, (), 5, 0, 3, ("first", 2)), True)
        self.assertIs(can_see(office, (), 5, 1, 3, ("first", 2)), False)

    def test_steps_at_other_paths(self):
        office = small_office()
        plan = day_by_day(("write", 0, 1), ("throw", 1, 1))
        self.assertEqual(
            sights(office, plan, 0, 0, 0),
            [(("first", folder), moment, folder) for folder in range(3) for moment in range(3)],
        )
        self.assertEqual([moment for source, moment, _ in sights(office, plan, 0, 0, 1) if source == ("first", 0)], [0])

    def test_the_order_turns_on_the_starting_day(self):
        office = small_office(book=(("a", ("oo-", (), ())),))
        plan = ((("write", 0, 0), ("+", "a")), (("bar", 0, ("p", 0)), ("a",)))
        self.assertEqual([can_see(office, plan, day, 0, 0, ("written", 0)) for day in range(4)], [False, False, True, False])


class CanSee(unittest.TestCase):
    def test_against_doing_the_steps_one_by_one(self):
        found = []
        for office, plan in some_paper_offices(60, 205):
            for day in (0, 4):
                order = order_by_hand(office, plan, day)
                for person in range(office[0][0]):
                    for path in (0, 2):
                        for source in plan_sources(office, plan, path):
                            told = can_see(office, plan, day, person, path, source)
                            self.assertIs(told, sees_by_steps(office, plan, order, person, path, source))
                            found.append(told)
        self.assertEqual(set(found), {True, False})

    def test_sources_that_are_none_there(self):
        office = small_office()
        plan = day_by_day(("write", 0, 1), ("over", 0, 1), ("write", 2, 0))
        for path, sources in [(0, [0, 1, 3, -1]), (1, [1, 2, 3]), (2, [0, 1, 2])]:
            for number in sources:
                with self.assertRaises(BadSource):
                    can_see(office, plan, 0, 0, path, ("written", number))
            for folder in (3, -1):
                with self.assertRaises(BadSource):
                    can_see(office, plan, 0, 0, path, ("first", folder))
        self.assertIs(can_see(office, plan, 0, 0, 0, ("written", 2)), True)
        self.assertIs(can_see(office, plan, 0, 0, 1, ("written", 0)), True)

    def test_sources_and_persons_that_no_step_brings_together(self):
        entries = ((1, ("p", 0), "allow"), (2, ("p", 1), "allow"))
        office = small_office(entries)
        plan = day_by_day(("under", 0, 1), ("write", 0, 0), ("over", 0, 1), ("over", 1, 2))
        for person, source, wanted in [
            (0, ("first", 0), True),
            (0, ("first", 2), False),
            (0, ("written", 1), True),
            (1, ("first", 0), False),
            (1, ("first", 1), False),
            (1, ("written", 1), True),
        ]:
            self.assertIs(can_see(office, plan, 0, person, 0, source), wanted, (person, source))


class AlikeContents(unittest.TestCase):
    def test_against_trying_all_first_contents(self):
        chance = random.Random(206)
        counts = set()
        for office, plan in some_paper_offices(60, 207) + some_offices(30, 208):
            size = len(office[0][2])
            day = chance.choice(DAYS)
            order = order_by_hand(office, plan, day)
            for person in range(office[0][0]):
                path = chance.randrange(2)
                shown = {
                    contents: shown_by_hand(office, plan, order, person, path, contents)
                    for contents in all_contents(size)
                }
                for contents in chance.sample(all_contents(size), 2):
                    told = alike_contents(office, plan, day, person, path, contents)
                    self.assertIs(type(told), list)
                    self.assertEqual(told, sorted(other for other in shown if shown[other] == shown[contents]))
                    self.assertIn(contents, told)
                    counts.add(len(told))
        self.assertGreater(len(counts), 3)

    def test_a_person_who_sees_nothing_and_one_who_sees_all(self):
        office = small_office()
        plan = day_by_day(("over", 0, 1), ("under", 1, 2))
        for contents in all_contents(3):
            self.assertEqual(alike_contents(office, plan, 0, 1, 0, contents), sorted(all_contents(3)))
            self.assertEqual(alike_contents(office, plan, 0, 0, 0, contents), [contents])

    def test_what_is_seen_only_later(self):
        # Folder 0 alone is seen, when the papers of the others have been laid over and under it.
        entries = ((0, ("p", 0), "allow"), (1, ("p", 0), "bar"), (2, ("p", 0), "bar"))
        plan = day_by_day(("over", 1, 0), ("under", 2, 0), ("allow", 0, ("p", 1)))
        office = small_office(entries)
        self.assertEqual(alike_contents(office, plan, 0, 0, 0, ()), [()])
        self.assertEqual(alike_contents(office, plan, 0, 0, 0, (0, 1)), [(0, 1), (0, 1, 2)])
        self.assertEqual(alike_contents(office, plan, 0, 0, 0, (1,)), [(1,), (1, 2)])
        self.assertEqual(alike_contents(office, plan, 0, 0, 0, (0,)), [(0,), (0, 2)])
        self.assertEqual(alike_contents(office, plan, 0, 0, 0, (2,)), [(2,)])
        # Person 1 sees all folders, but only when the paper of folder 0 is gone.
        self.assertEqual(alike_contents(office, plan, 0, 1, 0, (0, 1)), [(0, 1), (1,)])
        self.assertEqual(alike_contents(office, plan, 0, 1, 0, (0,)), [(0,)])

    def test_six_folders(self):
        office = small_office(size=6)
        self.assertEqual(len(alike_contents(office, (), 0, 1, 0, ())), 64)
        self.assertEqual(alike_contents(office, (), 0, 0, 0, (1, 5)), [(1, 5)])


class Looks(unittest.TestCase):
    def test_against_doing_the_steps_one_by_one(self):
        found = []
        for office, plan in some_offices(120, 209) + some_paper_offices(60, 210):
            size = len(office[0][2])
            for day in (0, 3, -FAR):
                order = order_by_hand(office, plan, day)
                for number, (deed, _) in enumerate(plan):
                    if deed[0] != "look":
                        continue
                    sources = found_by(office, plan, order, number)
                    told = look_sources(office, plan, day, number)
                    self.assertEqual(told, sources)
                    self.assertIs(type(told), type(sources))
                    found.append(told)
                    for contents in all_contents(size):
                        papers = papers_after(office, plan, order[:order.index(number)], contents)
                        shown = None if sources is None else papers.get((deed[2], deed[3]))
                        self.assertEqual(look_shows(office, plan, day, number, contents), shown)
        self.assertIn(None, found)
        self.assertIn((), found)
        self.assertGreater(len(set(found)), 10)

    def test_who_does_not_see_the_folder_finds_none_and_who_does_may_find_nothing(self):
        office = small_office()
        plan = day_by_day(("throw", 0, 0), ("look", 0, 0, 0), ("look", 1, 0, 0), ("look", 0, 0, 1))
        self.assertEqual([look_sources(office, plan, 0, number) for number in (1, 2, 3)], [(), None, (("first", 0),)])
        for contents in all_contents(3):
            self.assertIsNone(look_shows(office, plan, 0, 1, contents))
            self.assertIsNone(look_shows(office, plan, 0, 2, contents))
            self.assertEqual(look_shows(office, plan, 0, 3, contents), ("first", 0) if 0 in contents else None)

    def test_a_look_between_deeds_of_one_day(self):
        deeds = (("look", 0, 0, 0), ("over", 1, 0), ("look", 0, 0, 0), ("write", 0, 0), ("look", 0, 0, 0))
        deeds += (("bar", 0, ("p", 0)), ("look", 0, 0, 0), ("allow", 0, ("p", 0)))
        plan = tuple((deed, ("+",)) for deed in deeds)
        office = small_office()
        self.assertEqual([look_sources(office, plan, 0, number) for number in (0, 2, 4, 6)], [
            (("first", 0),),
            (("first", 1), ("first", 0)),
            (("written", 3),),
            None,
        ])
        self.assertEqual([look_shows(office, plan, 0, number, (0,)) for number in (0, 2, 4, 6)], [
            ("first", 0),
            ("first", 0),
            ("written", 3),
            None,
        ])
        self.assertEqual(look_shows(office, plan, 0, 2, (0, 1)), ("first", 1))
        self.assertIsNone(look_shows(office, plan, 0, 2, (2,)))

    def test_steps_that_are_no_looks(self):
        office = small_office(people=3, size=4, book=(("a", ("o", (), ())), ("k", ("o", (), ()))))
        for number in range(len(PAPER_PLAN)):
            for call in (lambda: look_sources(office, PAPER_PLAN, 0, number), lambda: look_shows(office, PAPER_PLAN, 0, number, ())):
                if number in (1, 3):
                    call()
                else:
                    with self.assertRaises(BadStep):
                        call()

    def test_all_modes(self):
        plan = day_by_day(("join", 0, ("p", 1)), ("look", 1, 0, 0), ("login", 1), ("look", 1, 0, 0))
        for mode in MODES:
            office = (small_office(((0, ("g", 0), "allow"),))[0], mode, ())
            self.assertEqual(order_at(office, plan, 0), (0, 1, 2, 3))
            self.assertEqual(look_sources(office, plan, 0, 1), (("first", 0),) if mode[2] == "now" else None)
            self.assertEqual(look_sources(office, plan, 0, 3), (("first", 0),))


if __name__ == "__main__":
    unittest.main()
