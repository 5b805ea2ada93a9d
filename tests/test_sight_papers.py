"""Papers that show how a person can come to see a source."""

import itertools
import random
import unittest

from copy_samples import all_contents, is_trail_by_hand
from house_samples import sees_by_hand
from plan_samples import order_by_hand, papers_after, state_by_hand
from samples import FAR, OTHERS, Odd
from sight_samples import day_by_day, plan_sources, small_office, some_paper_offices

from officepapers.moments import script_at, state_at
from officepapers.reasons import reason_for, reason_holds
from officepapers.sight import sight_holds, sight_paper, sights


def holds_by_hand(office, plan, day, person, path, source, paper):
    """Whether the paper, a tuple of a right form, is a sight paper, by the words of the document."""
    moment, folder, contents, steps, reason = paper
    house, mode, _ = office
    numbers = order_by_hand(office, plan, day)[:moment]
    if papers_after(office, plan, numbers, contents).get((folder, path)) != source:
        return False
    script, places = script_at(office, plan, day, moment)
    if not set(steps) <= set(places):
        return False
    at_place = source if source[0] == "first" else (source[0], places.index(source[1]))
    trail = tuple(places.index(step) for step in steps)
    state = state_by_hand(office, plan, numbers)
    return (
        is_trail_by_hand(len(house[2]), script, path, folder, at_place, contents, trail)
        and sees_by_hand(mode, state, person, folder)
        and reason[0] == "sees"
        and reason_holds(house, mode, state, person, folder, reason)
    )


class SightPapers(unittest.TestCase):
    def test_one_with_the_least_moment(self):
        lengths = set()
        for office, plan in some_paper_offices(120, 221, sizes=(2, 3, 4)):
            for day in (0, -FAR):
                for person, path in itertools.product(range(office[0][0]), (0, 1, 2)):
                    told = sights(office, plan, day, person, path)
                    for source in plan_sources(office, plan, path):
                        moments = [moment for one, moment, _ in told if one == source]
                        paper = sight_paper(office, plan, day, person, path, source)
                        if not moments:
                            self.assertIsNone(paper)
                            continue
                        self.assertIs(type(paper), tuple)
                        self.assertEqual(paper[0], min(moments))
                        self.assertTrue(holds_by_hand(office, plan, day, person, path, source, paper), paper)
                        self.assertIs(sight_holds(office, plan, day, person, path, source, paper), True)
                        lengths.add(len(paper[3]))
        self.assertGreater(len(lengths), 2, lengths)

    def test_against_the_words_of_the_document(self):
        chance = random.Random(222)
        right = 0
        for office, plan in some_paper_offices(100, 223, most=6):
            house, mode, _ = office
            size = len(house[2])
            day = chance.choice([0, 1, -9])
            order = order_by_hand(office, plan, day)
            for person, path in itertools.product(range(house[0]), (0, 1)):
                for source in plan_sources(office, plan, path):
                    paper = sight_paper(office, plan, day, person, path, source)
                    for _ in range(12):
                        moment = chance.randint(0, len(plan))
                        folder = chance.randrange(size)
                        contents = chance.choice(all_contents(size))
                        steps = tuple(number for number in order[:moment] if chance.random() < 0.4)
                        reason = reason_for(house, mode, state_at(office, plan, day, moment), person, folder)
                        other = (moment, folder, contents, steps, reason)
                        if paper is not None and chance.random() < 0.8:
                            kept = chance.randrange(5)
                            other = paper[:kept] + other[kept:kept + 1] + paper[kept + 1:]
                        wanted = holds_by_hand(office, plan, day, person, path, source, other)
                        self.assertIs(sight_holds(office, plan, day, person, path, source, other), wanted, other)
                        right += wanted
        self.assertGreater(right, 200)

    def test_trails_with_several_copies_and_longer_ones_than_needed(self):
        # Person 1 sees nothing but folder 2; the paper of folder 0 comes there through folder 1 or at once.
        office = small_office(((2, ("p", 1), "allow"),))
        plan = day_by_day(("over", 0, 1), ("over", 1, 2), ("over", 0, 2))
        source = ("first", 0)
        reason = ("sees", 2, ("p", 1), ())
        self.assertEqual(sight_paper(office, plan, 0, 1, 0, source), (2, 2, (0,), (0, 1), reason))
        for steps, moment, wanted in [
            ((0, 1), 2, True),
            ((0, 1), 3, True),
            ((2,), 3, True),
            ((2,), 2, False),
            ((1,), 3, False),
            ((0,), 3, False),
            ((0, 1, 2), 3, False),
            ((1, 0), 3, False),
            ((), 3, False),
        ]:
            for contents in all_contents(3):
                paper = (moment, 2, contents, steps, reason)
                self.assertIs(sight_holds(office, plan, 0, 1, 0, source, paper), wanted and 0 in contents, paper)

    def test_numbers_in_the_order_of_the_history_that_do_not_ascend(self):
        office = small_office(((2, ("p", 1), "allow"),))
        plan = ((("over", 1, 2), ("+", "+")), (("throw", 1, 1), ()), (("over", 0, 1), ("+",)), (("write", 0, 0), ()))
        reason = ("sees", 2, ("p", 1), ())
        for source, contents in [(("written", 3), ()), (("first", 0), (0,))]:
            if source == ("first", 0):
                plan = plan[:3]
            paper = (len(plan), 2, contents, (2, 0), reason)
            self.assertEqual(sight_paper(office, plan, 0, 1, 0, source), paper)
            self.assertIs(sight_holds(office, plan, 0, 1, 0, source, paper), True)
            for steps in [(0, 2), (0,), (2,), (1, 2, 0), (2, 1, 0), (2, 0, 0), (3, 2, 0)]:
                self.assertIs(sight_holds(office, plan, 0, 1, 0, source, paper[:3] + (steps,) + paper[4:]), False)

    def test_each_part_broken_alone(self):
        office = small_office(((0, ("g", 1), "allow"), (2, ("p", 1), "bar")))
        plan = day_by_day(("join", 1, ("p", 1)), ("under", 2, 1), ("join", 1, ("g", 0)), ("throw", 1, 0))
        source = ("first", 2)
        paper = (2, 1, (2,), (1,), ("sees", 0, ("g", 1), (1,)))
        self.assertEqual(sight_paper(office, plan, 0, 1, 0, source), paper)

        def holds(at, part):
            return sight_holds(office, plan, 0, 1, 0, source, paper[:at] + (part,) + paper[at + 1:])

        self.assertIs(holds(0, 3), True)
        self.assertIs(holds(2, (0, 2)), True)
        for at, parts in enumerate([
            [0, 1, 4, 5, -1, 10 ** 59, "2", (2,)],
            [0, 2, 3, -1, 10 ** 59, "1", (1,)],
            [(), (0,), (1,), (1, 2), (2, 0), (2, 2), (2, 3), (0, 1, 2), [2], 2, "2", (Odd(),), (True,), (2.0,)],
            [(), (0,), (2,), (3,), (1, 1), (0, 1), (1, 3), (4,), (-1,), (-3,), [1], 1, "1", (True,), (Odd(),), ((1,),)],
            [
                ("sees", 0, ("g", 1), (0, 1)),
                ("sees", 0, ("p", 1), ()),
                ("sees", 1, ("g", 1), (1,)),
                ("sees", 0, ("g", 1), ()),
                ("barred", 0, ("g", 1), (1,)),
                ("nothing", (1, 0), ()),
                ("nothing", (1, 0), (1,)),
                ["sees", 0, ("g", 1), (1,)],
                ("sees", 0, ("g", 1)),
                "sees",
                (),
                (Odd(), 0, ("g", 1), (1,)),
                ("sees", Odd(), Odd(), Odd()),
                5,
            ],
        ]):
            for part in parts + OTHERS:
                self.assertIs(holds(at, part), False, (at, part))

    def test_reasons_that_hold_but_do_not_tell_that_the_person_sees(self):
        office = small_office(((0, ("p", 0), "bar"),))
        for person, reason in [(0, ("barred", 0, ("p", 0), ())), (1, ("nothing", (0,), ()))]:
            state = state_at(office, (), 0, 0)
            self.assertIs(reason_holds(office[0], office[1], state, person, 0, reason), True)
            self.assertIs(sight_holds(office, (), 0, person, 0, ("first", 0), (0, 0, (0,), (), reason)), False)
            self.assertIsNone(sight_paper(office, (), 0, person, 0, ("first", 0)))

    def test_a_written_source_ahead_of_its_writing(self):
        office = small_office()
        plan = day_by_day(("throw", 0, 0), ("write", 0, 0), ("over", 0, 1))
        reason = ("sees", 0, ("p", 0), ())
        source = ("written", 1)
        for moment, folder, steps, wanted in [
            (0, 0, (), False),
            (1, 0, (), False),
            (2, 0, (), True),
            (3, 0, (), True),
            (2, 1, (2,), False),
            (3, 1, (2,), True),
            (3, 1, (1, 2), False),
            (3, 1, (), False),
        ]:
            paper = (moment, folder, (), steps, reason)
            self.assertIs(sight_holds(office, plan, 0, 0, 0, source, paper), wanted, paper)
        self.assertEqual(sight_paper(office, plan, 0, 0, 0, source), (2, 0, (), (), reason))

    def test_steps_that_are_no_copies_and_other_paths(self):
        office = small_office()
        plan = day_by_day(("shut", 1), ("look", 0, 0, 0), ("write", 1, 0), ("over", 1, 2), ("write", 0, 1))
        paper = (5, 2, (), (3,), ("sees", 0, ("p", 0), ()))
        self.assertIs(sight_holds(office, plan, 0, 0, 0, ("written", 2), paper), True)
        for steps in [(0, 3), (1, 3), (2, 3), (3, 4), (3, 3), ()]:
            other = paper[:3] + (steps,) + paper[4:]
            self.assertIs(sight_holds(office, plan, 0, 0, 0, ("written", 2), other), False)
        self.assertIs(sight_holds(office, plan, 0, 0, 0, ("first", 1), paper), False)

    def test_the_empty_plan(self):
        office = small_office()
        paper = (0, 2, (2,), (), ("sees", 0, ("p", 0), ()))
        self.assertEqual(sight_paper(office, (), 0, 0, 3, ("first", 2)), paper)
        self.assertIs(sight_holds(office, (), 0, 0, 3, ("first", 2), paper), True)
        self.assertIs(sight_holds(office, (), 0, 0, 3, ("first", 1), paper), False)
        self.assertIs(sight_holds(office, (), 0, 0, 3, ("first", 2), (0, 2, (2,), (0,), paper[4])), False)

    def test_other_objects(self):
        office = small_office()
        paper = (0, 0, (0,), (), ("sees", 0, ("p", 0), ()))
        self.assertIs(sight_holds(office, (), 0, 0, 0, ("first", 0), paper), True)
        things = OTHERS + [5, (), paper[:4], paper + ((),), list(paper), (paper,), paper[::-1], {paper: paper}]
        for thing in things + [(Odd(),) * 5, (Odd(), *paper[1:])]:
            self.assertIs(sight_holds(office, (), 0, 0, 0, ("first", 0), thing), False, thing)


if __name__ == "__main__":
    unittest.main()
