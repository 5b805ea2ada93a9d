"""A live office: waits, deeds, looks and what is taken back."""

import random
import unittest

from code_samples import BAD_SCHEMES, is_near
from copy_samples import BAD_PATHS, all_deeds
from house_samples import BAD_FOLDERS, BAD_PERSONS, all_right_deeds
from live_samples import HOUSE, OFFICE, SCHEME, ByHand, ask, live_after, some_works
from plan_samples import BAD_LOOKS, BAD_OFFICE_DEEDS, BAD_OFFICES, all_looks
from samples import BAD_DAYS, BAD_ROUTES, FAR, OTHERS

from officepapers.errors import (
    BadCode,
    BadDay,
    BadDeed,
    BadFolder,
    BadOffice,
    BadPath,
    BadPerson,
    BadRoute,
    BadScheme,
    Full,
    NoName,
    NothingToUndo,
    TooMany,
)
from officepapers.labels import found_typed, labels
from officepapers.live import Live
from officepapers.moments import lists_at, state_at
from officepapers.plans import history
from officepapers.sight import sights, sure_sights

LABELS = [(0, 0, 0, 0), (0, 1, 1, 6), (0, 2, 2, 1)]


def known_of(live):
    """All that a live office tells of itself."""
    return (
        live.day,
        live.office,
        live.state(),
        [live.lists(path) for path in range(4)],
        live.log(),
        len(live),
        list(live),
    )


def moved_by_hand(day, letters):
    by_hand = ByHand(OFFICE, day)
    by_hand.asked.append(("wait", letters))
    return by_hand.day()


class Asked(unittest.TestCase):
    def assert_error(self, error, call, *given):
        with self.assertRaises(error, msg=(call, given)) as caught:
            call(*given)
        self.assertIs(type(caught.exception), error)
        return caught.exception


class Beginning(Asked):
    def test_nothing_is_done_at_first(self):
        for day in (-FAR, 0, FAR):
            live = Live(OFFICE, day)
            self.assertEqual((live.day, live.office, live.log(), len(live)), (day, OFFICE, [], 0))
            self.assertEqual(live.plan(), ())
            self.assertEqual(live.lists(3), tuple((("first", folder),) for folder in range(4)))
            self.assertEqual(live.state(), ByHand(OFFICE, day).state())
        self.assertEqual(Live(office=OFFICE, day=5).day, 5)

    def test_errors(self):
        for office in BAD_OFFICES:
            self.assert_error(BadOffice, Live, office, 0)
            self.assert_error(BadOffice, Live, office, None)
        for day in BAD_DAYS:
            self.assert_error(BadDay, Live, OFFICE, day)

    def test_the_properties_are_not_assigned(self):
        live = Live(OFFICE, 3)
        for name, value in [("day", 4), ("office", OFFICE)]:
            with self.assertRaises(AttributeError):
                setattr(live, name, value)


class GoingOn(Asked):
    def test_against_doing_all_anew_for_each_question(self):
        for office, work in some_works(60, 351, 12):
            day = random.Random(len(work)).choice([0, -7, FAR, -FAR])
            live, by_hand = Live(office, day), ByHand(office, day)
            for word, thing in work:
                answer = ask(live, word, thing)
                many = len(by_hand.steps())
                by_hand.asked.append((word, thing))
                if word == "wait":
                    self.assertEqual(answer, by_hand.day())
                elif word == "do":
                    self.assertIsNone(answer)
                else:
                    self.assertEqual(answer, by_hand.found(*thing[1:], many))
            self.assertEqual(live.day, by_hand.day())
            self.assertEqual(live.office, office)
            self.assertEqual(live.log(), by_hand.log())
            self.assertEqual(live.state(), by_hand.state())
            for path in range(4):
                self.assertEqual(live.lists(path), by_hand.lists(path))
            for person in range(office[0][0]):
                for path in (0, 1, 3):
                    seen = live.seen(person, path)
                    self.assertIs(type(seen), list)
                    self.assertEqual(seen, by_hand.seen(person, path))
                for folder in range(len(office[0][2])):
                    self.assertIs((person, folder) in live, by_hand.sees(person, folder))

    def test_against_the_functions_of_plans_moments_and_sight(self):
        planned = 0
        for office, work in some_works(150, 352, 8):
            live = live_after(Live, office, 3, work)
            try:
                plan = live.plan()
            except TooMany:
                continue
            planned += len(plan) > 3
            last = len(plan)
            self.assertEqual(live.state(), state_at(office, plan, 3, last))
            entries = [entry for entry in live.log() if entry[0] != "wait"]
            days = [(entry[-1], number) for number, entry in enumerate(entries)]
            self.assertEqual(history(office, plan, 3), days)
            for path in range(4):
                self.assertEqual(live.lists(path), lists_at(office, plan, 3, last, path))
                for person in range(office[0][0]):
                    self.assertEqual(live.seen(person, path), sights(office, plan, 3, person, path))
            for _, code in labels(SCHEME, office, plan):
                # What stands first stands there for all first contents.
                sure = [
                    pair for pair in found_typed(SCHEME, office, plan, 3, last, (), code)
                    if live.lists(plan[pair[0]][0][2])[pair[1]][0] == ("written", pair[0])
                ]
                self.assertEqual(live.find(SCHEME, code), sure)
        self.assertGreater(planned, 40)

    def test_what_is_seen_surely(self):
        live = live_after(Live, OFFICE, 0, [("do", ("write", 0, 0)), ("look", ("look", 1, 0, 0)), ("do", ("over", 0, 1))])
        plan = live.plan()
        self.assertLessEqual(set(sure_sights(OFFICE, plan, 0, 1, 0)), set(live.seen(1, 0)))
        self.assertIn((("written", 0), 1, 0), live.seen(1, 0))
        self.assertNotIn((("written", 0), 0, 0), live.seen(1, 0))
        self.assertIn((("written", 0), 3, 1), live.seen(1, 0))

    def test_each_right_deed_and_each_paper_deed(self):
        for people, size in [(1, 1), (3, 4), (4, 6)]:
            house = (people, (0,) * (size - 1), (False,) * size, (), ())
            live = Live((house, OFFICE[1], ()), 0)
            for deed in all_right_deeds(people, size) + all_deeds(size):
                self.assertIsNone(live.do(deed))
                self.assertEqual(live.log(), [("do", deed, 0)])
                live.undo()

    def test_a_deed_that_changes_nothing_is_an_entry(self):
        live = Live(OFFICE, 0)
        for many, deed in enumerate([("move", 0, 1), ("throw", 0, 0), ("throw", 0, 0), ("open", 0), ("leave", 2, ("p", 0))]):
            live.do(deed)
            self.assertEqual(len(live), many + 1)
            self.assertEqual(live.log()[-1], ("do", deed, 0))
        live.do(("write", 0, 0))
        self.assertEqual(live.lists(0)[0], (("written", 5),))

    def test_looks_by_one_who_sees_the_folder_and_by_one_who_does_not(self):
        live = Live(OFFICE, 4)
        self.assertEqual(live.look(1, 0, 2), (("first", 0),))
        self.assertIsNone(live.look(2, 0, 2))
        live.do(("throw", 0, 2))
        self.assertEqual(live.look(person=1, folder=0, path=2), ())
        self.assertEqual(live.log(), [
            ("look", 1, 0, 2, (("first", 0),), 4),
            ("look", 2, 0, 2, None, 4),
            ("do", ("throw", 0, 2), 4),
            ("look", 1, 0, 2, (), 4),
        ])

    def test_sources_are_told_by_the_place_among_deeds_and_looks(self):
        live = Live(OFFICE, 0)
        live.wait("+")
        live.look(0, 0, 0)
        live.wait()
        live.do(("write", 0, 0))
        live.wait("+")
        live.do(("over", 0, 1))
        self.assertEqual(live.lists(0)[:2], ((("written", 1),),) * 2)
        self.assertEqual(live.lists(path=1)[:2], ((("first", 0),), (("first", 0), ("first", 1))))
        live.undo()
        live.undo()
        live.undo()
        live.undo()
        live.undo()
        live.do(("write", 0, 0))
        self.assertEqual(live.lists(0)[0], (("written", 0),))


class Waits(Asked):
    def test_no_letters_and_eight(self):
        live = Live(OFFICE, 5)
        self.assertEqual(live.wait(), 5)
        self.assertEqual(live.wait(*["+"] * 8), 13)
        self.assertEqual(live.wait("a", "k"), moved_by_hand(13, ("a", "k")))
        self.assertEqual(live.day, moved_by_hand(13, ("a", "k")))
        self.assertEqual(live.log(), [("wait", ()), ("wait", ("+",) * 8), ("wait", ("a", "k"))])

    def test_what_is_no_route(self):
        live = Live(OFFICE, 5)
        self.assert_error(BadRoute, live.wait, *["+"] * 9)
        self.assert_error(BadRoute, live.wait, *["z"] * 9)
        for letters in [route for route in BAD_ROUTES if isinstance(route, tuple)]:
            self.assert_error(BadRoute, live.wait, *letters)
        for letter in OTHERS + ["ab", "A", "++", ("+",), 5, (), "."]:
            self.assert_error(BadRoute, live.wait, letter)
            self.assert_error(BadRoute, live.wait, "z", letter)
        self.assertEqual((live.day, len(live)), (5, 0))

    def test_names_that_are_not_in_the_book(self):
        live = Live(OFFICE, 5)
        for letters, name in [(("b",), "b"), (("a", "+", "z", "b"), "z"), (("k", "l", "k"), "l")]:
            self.assertEqual(self.assert_error(NoName, live.wait, *letters).name, name)
        self.assertEqual((live.day, len(live)), (5, 0))
        self.assert_error(NoName, Live((HOUSE, OFFICE[1], ()), 0).wait, "a")

    def test_the_present_day_beyond_the_range_of_days(self):
        live = Live(OFFICE, FAR)
        self.assertEqual(live.wait(*["+"] * 8), FAR + 8)
        self.assertEqual(live.wait("a"), moved_by_hand(FAR + 8, ("a",)))
        live.do(("write", 0, 0))
        self.assertGreaterEqual(live.log()[-1][2], FAR + 8)
        self.assertEqual(live.copy(), live)


class Undoing(Asked):
    def test_back_to_the_beginning_and_once_more(self):
        for office, work in some_works(40, 353, 10):
            live = Live(office, 2)
            known = [known_of(live)]
            for word, thing in work:
                ask(live, word, thing)
                known.append(known_of(live))
            for wanted in known[:-1][::-1]:
                self.assertIsNone(live.undo())
                self.assertEqual(known_of(live), wanted)
            self.assert_error(NothingToUndo, live.undo)
            self.assertEqual(known_of(live), known[0])

    def test_each_kind_of_entry(self):
        live = Live(OFFICE, 0)
        for word, thing in [("wait", ("+",)), ("wait", ()), ("do", ("over", 1, 0)), ("look", ("look", 2, 3, 1))]:
            ask(live, word, thing)
            self.assertEqual(len(live), 1)
            self.assertIsNone(live.undo())
            self.assertEqual((len(live), live.day, live.lists(0)[0]), (0, 0, (("first", 0),)))
            self.assert_error(NothingToUndo, live.undo)

    def test_what_is_taken_back_is_not_seen_so_far(self):
        live = Live(OFFICE, 0)
        live.do(("write", 0, 0))
        self.assertIn((("written", 0), 1, 0), live.seen(1, 0))
        live.undo()
        self.assertEqual(live.seen(1, 0), Live(OFFICE, 0).seen(1, 0))


class Fullness(Asked):
    def full(self):
        live = Live(OFFICE, 0)
        for at in range(40):
            ask(live, *[("wait", ("+",)), ("do", ("write", 0, at % 4)), ("look", ("look", 1, 0, 0))][at % 3])
        return live

    def test_forty_entries_and_one_more(self):
        live = self.full()
        known = known_of(live)
        self.assertEqual(len(live), 40)
        for call, given in [(live.wait, ()), (live.wait, ("+",)), (live.do, (("throw", 1, 1),)), (live.look, (0, 0, 0))]:
            self.assert_error(Full, call, *given)
            self.assertEqual(known_of(live), known)
        live.undo()
        live.wait("a", "+")
        self.assertEqual(len(live), 40)
        self.assert_error(Full, live.wait)

    def test_the_other_errors_come_first(self):
        live = self.full()
        self.assert_error(BadRoute, live.wait, "ab")
        self.assert_error(NoName, live.wait, "b")
        self.assert_error(BadDeed, live.do, ("look", 0, 0, 0))
        self.assert_error(BadPerson, live.look, 3, 0, 0)
        self.assert_error(BadFolder, live.look, 0, 4, 0)
        self.assert_error(BadPath, live.look, 0, 0, 4)

    def test_a_full_one_is_copied_and_done_from_another_day(self):
        live = self.full()
        self.assertEqual(live.copy(), live)
        self.assertEqual(len(live.with_start(9)), 40)
        self.assert_error(Full, live.with_start(9).wait)


class Errors(Asked):
    def test_deeds(self):
        live = Live(OFFICE, 0)
        for deed in BAD_OFFICE_DEEDS + BAD_LOOKS + all_looks(3, 4):
            self.assert_error(BadDeed, live.do, deed)
        live.do(deed=("shut", 3))
        self.assertEqual(len(live), 1)

    def test_looks(self):
        live = Live(OFFICE, 0)
        for person in BAD_PERSONS:
            for folder, path in [(0, 0), (None, 0), (0, None), (9, 9)]:
                self.assert_error(BadPerson, live.look, person, folder, path)
        for folder in BAD_FOLDERS:
            for path in (0, None):
                self.assert_error(BadFolder, live.look, 0, folder, path)
        for path in BAD_PATHS:
            self.assert_error(BadPath, live.look, 0, 0, path)
        self.assertEqual(len(live), 0)

    def test_questions(self):
        live = Live(OFFICE, 0)
        for path in BAD_PATHS:
            self.assert_error(BadPath, live.lists, path)
            self.assert_error(BadPath, live.seen, 0, path)
        for person in BAD_PERSONS:
            self.assert_error(BadPerson, live.seen, person, 0)
            self.assert_error(BadPerson, live.seen, person, None)
        for day in BAD_DAYS:
            self.assert_error(BadDay, live.with_start, day)
        for scheme in BAD_SCHEMES:
            self.assert_error(BadScheme, live.find, scheme, (0, 0, 0, 0))
            self.assert_error(BadScheme, live.find, scheme, None)
        for code in OTHERS + [5, (), "0000", (0, 0, 0), (0,) * 5, [0] * 4, (0, 0, 0, 10), (0, 0, 0, True)]:
            self.assert_error(BadCode, live.find, SCHEME, code)

    def test_arguments_by_their_names(self):
        live = Live(day=0, office=OFFICE)
        self.assertEqual(live.seen(path=0, person=1), live.seen(1, 0))
        self.assertEqual(live.lists(path=2), live.lists(2))
        self.assertEqual(live.with_start(day=4).day, 4)


class Finding(Asked):
    def test_each_label_and_codes_one_slip_from_it(self):
        live = Live(OFFICE, 0)
        for deed in [("write", 0, 0), ("over", 0, 1), ("throw", 0, 0), ("write", 0, 3), ("under", 1, 2), ("write", 2, 0)]:
            live.wait("+")
            live.do(deed)
            live.look(0, 0, 0)
        places = [0, 6, 10]
        self.assertEqual([live.log()[3 * at + 1][1][0] for at in (0, 3, 5)], ["write"] * 3)
        wanted = {0: [(0, 1)], 1: [(6, 0)], 2: [(10, 2)]}
        for a in range(10):
            for code in [(a, 0, 0, 0), (0, a, 1, 6), (0, 1, a, 6), (1, 0, 1, 6), (0, 1, 6, 1), (0, 2, 2, a), (2, 0, 2, 1), (a, 9, 9, 9)]:
                near = [at for at in range(3) if is_near(code, LABELS[at])]
                told = live.find(SCHEME, code)
                self.assertIs(type(told), list)
                self.assertEqual(told, [pair for at in near for pair in wanted[at]], code)
        self.assertEqual([place for pairs in wanted.values() for place, _ in pairs], places)

    def test_papers_that_do_not_stand_first(self):
        live = Live(OFFICE, 0)
        live.do(("write", 0, 0))
        live.do(("under", 0, 1))
        self.assertEqual(live.find(SCHEME, LABELS[0]), [(0, 0)])
        live.do(("over", 0, 2))
        self.assertEqual(live.find(SCHEME, LABELS[0]), [(0, 0), (0, 2)])
        live.do(("throw", 0, 0))
        live.do(("throw", 2, 0))
        self.assertEqual(live.find(SCHEME, LABELS[0]), [])

    def test_eight_writes_and_more(self):
        live = Live(OFFICE, 0)
        for at in range(8):
            live.do(("write", at % 4, at // 4))
            live.wait()
        self.assertEqual(live.find(SCHEME, LABELS[2]), [(2, 2)])
        live.do(("write", 3, 3))
        self.assert_error(TooMany, live.find, SCHEME, LABELS[2])
        self.assert_error(BadCode, live.find, SCHEME, (0, 0))
        live.undo()
        self.assertEqual(live.find(SCHEME, LABELS[2]), [(2, 2)])

    def test_a_scheme_with_too_few_codes(self):
        live = Live(OFFICE, 0)
        few = (4, 5, (1, 2, 3), 0)
        for many in range(4):
            live.find(few, (0, 0, 0))
            live.do(("write", 0, many))
        self.assert_error(TooMany, live.find, few, (0, 0, 0))
        self.assert_error(BadCode, live.find, few, (0, 0, 4))

    def test_no_writes(self):
        self.assertEqual(Live(OFFICE, 0).find(SCHEME, LABELS[0]), [])


if __name__ == "__main__":
    unittest.main()
