"""Whether papers are kept to their days, where they are, and what spares or saves them."""

import itertools
import random
import unittest

from plan_samples import history_by_hand, lists_after, order_by_hand
from samples import FAR, move_by_hand
from sight_samples import (
    NEAR,
    day_by_day,
    small_office,
    some_keep,
    some_paper_offices,
    stands_surely,
)

from officepapers.errors import BadKeep, BadStep
from officepapers.keeping import (
    due_day,
    ever_kept,
    keep_word,
    latest_for,
    lost_papers,
    saved_by,
    spared_by,
    whereabouts,
)
from officepapers.plans import day_of


def due_by_hand(office, plan, keep, number, day):
    return move_by_hand(office[2], dict(keep)[number], move_by_hand(office[2], plan[number][1], day))


class Losses:
    """Which papers are lost, by the words of the document; what is kept behind which steps is asked only once."""

    def __init__(self, office):
        self.office = office
        self.known = {}

    def kept(self, plan, numbers, number):
        key = (plan, numbers, number)
        if key not in self.known:
            path = plan[number][0][2]
            self.known[key] = stands_surely(self.office, plan, numbers, path, ("written", number))
        return self.known[key]

    def lost_at(self, plan, done, number, due):
        """The number of the step of the least moment by the due day at which the paper is not kept, None if kept."""
        numbers = tuple(step for _, step in done)
        for moment in range(numbers.index(number) + 1, len(done) + 1):
            day, step = done[moment - 1]
            if day <= due and not self.kept(plan, numbers[:moment], number):
                return step
        return None

    def lost(self, plan, keep, day):
        done = history_by_hand(self.office, plan, day)
        found = [
            (number, self.lost_at(plan, done, number, due_by_hand(self.office, plan, keep, number, day)))
            for number, _ in keep
        ]
        return [(number, step) for number, step in found if step is not None]


def some_kept_plans(count, seed, most=8):
    """Tuples of an office, a plan and a keep that is not empty."""
    chance = random.Random(seed)
    told = []
    for office, plan in some_paper_offices(3 * count, seed, most):
        keep = some_keep(chance, office, plan)
        if keep and len(told) < count:
            told.append((office, plan, keep))
    return told


class DueDays(unittest.TestCase):
    def test_against_moving_days_one_by_one(self):
        for office, plan, keep in some_kept_plans(60, 301):
            for number, _ in keep:
                for day in [*range(-45, 46, 5), FAR, -FAR, FAR - 3]:
                    wanted = due_by_hand(office, plan, keep, number, day)
                    self.assertEqual(due_day(office, plan, keep, number, day), wanted)
                    self.assertGreaterEqual(wanted, day_of(office, plan, number, day))

    def test_latest_for_against_moving_days_one_by_one(self):
        for office, plan, keep in some_kept_plans(60, 302):
            for number, _ in keep:
                for day in [*range(-45, 46, 5), FAR, -FAR, FAR - 3]:
                    latest = latest_for(office, plan, keep, number, day)
                    self.assertLessEqual(due_by_hand(office, plan, keep, number, latest), day)
                    self.assertGreater(due_by_hand(office, plan, keep, number, latest + 1), day)

    def test_routes_that_stay_on_the_day(self):
        office = small_office(book=(("a", ("oo-", (), ())),))
        plan = ((("write", 0, 0), ("a",)), (("write", 1, 1), ()))
        keep = ((0, ("a", "a")), (1, ()))
        self.assertEqual([due_day(office, plan, keep, 0, day) for day in range(5)], [0, 1, 3, 3, 4])
        self.assertEqual([due_day(office, plan, keep, 1, day) for day in (-FAR, 2, FAR)], [-FAR, 2, FAR])
        self.assertEqual([latest_for(office, plan, keep, 0, day) for day in range(5)], [0, 1, 1, 3, 4])
        self.assertEqual([latest_for(office, plan, keep, 1, day) for day in (-FAR, 2, FAR)], [-FAR, 2, FAR])

    def test_beyond_the_range_of_days(self):
        office = small_office()
        plan = ((("write", 0, 0), ("+",) * 8),)
        keep = ((0, ("+",) * 8),)
        self.assertEqual(due_day(office, plan, keep, 0, FAR), FAR + 16)
        self.assertEqual(latest_for(office, plan, keep, 0, -FAR), -FAR - 16)

    def test_numbers_that_are_not_in_the_keep(self):
        office = small_office()
        plan = day_by_day(("write", 0, 0), ("write", 0, 0), ("shut", 0))
        keep = ((1, ()),)
        for call in (due_day, latest_for, spared_by, saved_by):
            call(office, plan, keep, 1, 0)
            for number in (0, 2, 3, -1, -2, True, None, "1"):
                with self.assertRaises(BadStep):
                    call(office, plan, keep, number, 0)
            for number in (0, 1):
                with self.assertRaises(BadStep):
                    call(office, plan, (), number, 0)


class LostPapers(unittest.TestCase):
    def test_against_the_words_of_the_document(self):
        lost_many = 0
        for office, plan, keep in some_kept_plans(120, 303):
            losses = Losses(office)
            for day in (0, 1, 5, -20, 29, FAR, -FAR):
                told = lost_papers(office, plan, keep, day)
                self.assertIs(type(told), list)
                self.assertEqual(told, losses.lost(plan, keep, day))
                lost_many += len(told) > 0
        self.assertGreater(lost_many, 100)

    def lost(self, *deeds, route=("+",) * 8, together=False):
        """What is lost of the papers of all writings, the deeds being done day by day or all on one day."""
        plan = tuple((deed, ()) for deed in deeds) if together else day_by_day(*deeds)
        keep = tuple((number, route) for number, deed in enumerate(deeds) if deed[0] == "write")
        return lost_papers(small_office(), plan, keep, 0)

    def test_papers_written_over_thrown_away_and_copied_before(self):
        write = ("write", 0, 0)
        self.assertEqual(self.lost(write), [])
        self.assertEqual(self.lost(write, write), [(0, 1)])
        self.assertEqual(self.lost(write, ("throw", 0, 0)), [(0, 1)])
        self.assertEqual(self.lost(write, ("throw", 0, 1), ("write", 0, 1)), [])
        self.assertEqual(self.lost(write, ("over", 0, 1), write), [])
        self.assertEqual(self.lost(write, ("over", 0, 1), ("throw", 0, 0)), [])
        self.assertEqual(self.lost(write, ("over", 0, 1), ("throw", 0, 0), ("throw", 1, 0)), [(0, 3)])
        self.assertEqual(self.lost(write, ("over", 0, 1), ("throw", 0, 0), ("write", 1, 0)), [(0, 3)])
        self.assertEqual(self.lost(("throw", 1, 0), write, ("under", 0, 1), ("throw", 0, 0)), [])
        # An "over" of what may be a paper may put another one in its place, an "under" never does.
        self.assertEqual(self.lost(write, ("over", 1, 0)), [(0, 1)])
        self.assertEqual(self.lost(write, ("under", 1, 0)), [])
        self.assertEqual(self.lost(("throw", 1, 0), write, ("over", 1, 0)), [])
        # Behind a first paper it does not stand surely.
        self.assertEqual(self.lost(write, ("under", 0, 1), ("throw", 0, 0)), [(0, 2)])

    def test_between_two_steps_of_one_day(self):
        write, throw = ("write", 0, 0), ("throw", 0, 0)
        self.assertEqual(self.lost(write, throw, route=(), together=True), [(0, 1)])
        self.assertEqual(self.lost(write, throw, write, route=(), together=True), [(0, 1)])
        self.assertEqual(self.lost(write, ("over", 0, 1), throw, ("over", 1, 0), route=(), together=True), [])
        self.assertEqual(self.lost(throw, write, route=(), together=True), [])

    def test_the_due_day_itself_and_one_day_earlier(self):
        office = small_office()
        plan = ((("write", 0, 0), ()), (("throw", 0, 0), ("+", "+")))
        for many, wanted in [(0, []), (1, []), (2, [(0, 1)]), (3, [(0, 1)])]:
            for day in (0, FAR, -FAR):
                self.assertEqual(lost_papers(office, plan, ((0, ("+",) * many),), day), wanted)

    def test_the_least_moment_is_told(self):
        write = ("write", 0, 0)
        self.assertEqual(self.lost(write, ("throw", 0, 0), ("throw", 0, 0), write), [(0, 1)])
        self.assertEqual(self.lost(write, write, write), [(0, 1), (1, 2)])
        self.assertEqual(self.lost(write, ("shut", 0), ("look", 0, 0, 0), write, write), [(0, 3), (3, 4)])

    def test_the_empty_keep(self):
        office = small_office()
        plan = day_by_day(("write", 0, 0), ("throw", 0, 0))
        for day in (0, FAR):
            self.assertEqual(lost_papers(office, plan, (), day), [])
        self.assertEqual(keep_word(office, plan, ()), ("always", None))
        self.assertEqual(ever_kept(office, plan, ()), [])
        self.assertEqual(lost_papers(office, (), (), 0), [])

    def test_keeps_that_are_none(self):
        office = small_office(book=(("a", ("o", (), ())),))
        plan = day_by_day(("write", 0, 0), ("over", 0, 1), ("write", 1, 2))
        for keep in [((0, ("a",)), (2, ())), ((2, ("+", "a")),), ()]:
            lost_papers(office, plan, keep, 0)
        for keep in [
            [(0, ())],
            ((1, ()),),
            ((3, ()),),
            ((-1, ()),),
            ((False, ()),),
            ((0, ()), (0, ("a",))),
            ((2, ()), (0, ())),
            ((0, ("b",)),),
            ((0, ("+",) * 9),),
            ((0, []),),
            ((0,),),
            (0, ()),
        ]:
            with self.assertRaises(BadKeep):
                lost_papers(office, plan, keep, 0)
            for call in (keep_word, ever_kept):
                with self.assertRaises(BadKeep):
                    call(office, plan, keep)


class KeepWords(unittest.TestCase):
    def word_by_hand(self, losses, plan, keep):
        lost = {day: losses.lost(plan, keep, day) for day in NEAR}
        found = [day for day in NEAR if lost[day]]
        if not found:
            return "always", None
        return ("never" if len(found) == len(NEAR) else "sometimes"), found[0]

    def test_against_trying_all_days_near_and_turns_beyond(self):
        words = []
        for office, plan, keep in some_kept_plans(50, 304):
            losses = Losses(office)
            told = keep_word(office, plan, keep)
            self.assertEqual(told, self.word_by_hand(losses, plan, keep))
            self.assertIs(type(told), tuple)
            each = ever_kept(office, plan, keep)
            self.assertIs(type(each), list)
            self.assertEqual(each, [(pair[0], self.word_by_hand(losses, plan, (pair,))[0]) for pair in keep])
            words.append(told[0])
        self.assertEqual(set(words), {"always", "never", "sometimes"})
        self.assertGreater(words.count("sometimes"), 5)

    def test_against_days_far_away(self):
        chance = random.Random(305)
        for office, plan, keep in some_kept_plans(60, 306):
            word = keep_word(office, plan, keep)[0]
            for day in [FAR, -FAR, chance.randint(-FAR, FAR), chance.randint(-FAR, FAR)]:
                lost = lost_papers(office, plan, keep, day)
                self.assertIn(word, ("never" if lost else "always", "sometimes"))

    def test_the_day_above_0_of_two_equally_near_ones(self):
        # The throwing comes by the due day only if the calendar is closed on the starting day.
        plan = ((("write", 0, 0), ("a",)), (("throw", 0, 0), ("+",)))
        for closed, wanted in [(((-9, -9), (9, 9)), 9), (((-9, -9), (10, 10)), -9)]:
            office = small_office(book=(("a", ("o", closed, ())),))
            self.assertEqual(keep_word(office, plan, ((0, ()),)), ("sometimes", wanted))
        office = small_office(book=(("a", ("oo--", (), ((-30, 30),))),))
        self.assertEqual(keep_word(office, plan, ((0, ()),)), ("sometimes", 31))

    def test_never_of_several_of_which_none_is_always_lost(self):
        office = small_office(book=(("a", ("o-", (), ())), ("b", ("-o", (), ()))))
        plan = (
            (("write", 0, 0), ()),
            (("write", 1, 0), ()),
            (("throw", 0, 0), ("a",)),
            (("throw", 1, 0), ("b",)),
        )
        keep = ((0, ()), (1, ()))
        self.assertEqual([lost_papers(office, plan, keep, day) for day in (0, 1)], [[(0, 2)], [(1, 3)]])
        self.assertEqual(keep_word(office, plan, keep), ("never", 0))
        self.assertEqual(ever_kept(office, plan, keep), [(0, "sometimes"), (1, "sometimes")])
        self.assertEqual(keep_word(office, plan, keep[:1]), ("sometimes", 0))
        self.assertEqual(keep_word(office, plan, keep[1:]), ("sometimes", 1))
        self.assertEqual(keep_word(office, plan[:3], keep[1:]), ("always", None))


class Whereabouts(unittest.TestCase):
    def test_against_the_lists_of_each_moment(self):
        seen = set()
        for office, plan, _ in some_kept_plans(60, 307):
            for number, (deed, _) in enumerate(plan):
                if deed[0] != "write":
                    continue
                for day in (0, 7, -FAR):
                    order = order_by_hand(office, plan, day)
                    wanted = []
                    for moment in range(order.index(number) + 1, len(plan) + 1):
                        lists = lists_after(office, plan, order[:moment], deed[2])
                        sure = tuple(at for at in range(len(lists)) if lists[at][:1] == (("written", number),))
                        wanted.append((sure, tuple(at for at in range(len(lists)) if ("written", number) in lists[at])))
                    told = whereabouts(office, plan, day, number)
                    self.assertIs(type(told), list)
                    self.assertEqual(told, wanted)
                    for pair in told:
                        self.assertEqual([type(pair), type(pair[0]), type(pair[1])], [tuple] * 3)
                        self.assertLessEqual(set(pair[0]), set(pair[1]))
                        seen.add(pair)
        self.assertGreater(len(seen), 8)

    def test_sure_and_maybe(self):
        plan = day_by_day(("throw", 2, 0), ("write", 0, 0), ("under", 0, 1), ("under", 0, 2), ("throw", 0, 0))
        self.assertEqual(whereabouts(small_office(), plan, 0, 1), [
            ((0,), (0,)),
            ((0,), (0, 1)),
            ((0, 2), (0, 1, 2)),
            ((2,), (1, 2)),
        ])
        plan = day_by_day(("write", 0, 0), ("throw", 0, 0), ("shut", 0))
        self.assertEqual(whereabouts(small_office(), plan, 0, 0), [((0,), (0,)), ((), ()), ((), ())])

    def test_a_writing_that_comes_last(self):
        plan = ((("write", 1, 3), ("+",)), (("write", 0, 3), ()), (("shut", 0), ()))
        self.assertEqual(whereabouts(small_office(), plan, 0, 0), [((1,), (1,))])
        self.assertEqual(whereabouts(small_office(), plan, 0, 1), [((0,), (0,))] * 3)

    def test_numbers_that_are_no_writing(self):
        plan = day_by_day(("over", 0, 1), ("write", 1, 3), ("look", 0, 0, 0), ("throw", 1, 3))
        for number in (0, 2, 3, 4, -1, True, None):
            with self.assertRaises(BadStep):
                whereabouts(small_office(), plan, 0, number)


def spared_by_hand(losses, plan, keep, number, day):
    done = history_by_hand(losses.office, plan, day)
    due = due_by_hand(losses.office, plan, keep, number, day)
    others = [step for step in range(len(plan)) if step != number]
    for many in range(3):
        found = [
            cut for cut in itertools.combinations(others, many)
            if losses.lost_at(plan, [step for step in done if step[1] not in cut], number, due) is None
        ]
        if found:
            return found
    return []


def saved_by_hand(losses, plan, keep, number, day):
    office = losses.office
    size = len(office[0][2])
    done = history_by_hand(office, plan, day)
    due = due_by_hand(office, plan, keep, number, day)
    if losses.lost_at(plan, done, number, due) is None:
        return []
    found = []
    first = [step for _, step in done].index(number) + 1
    for moment in range(first, len(plan) + 1):
        for source, target in itertools.permutations(range(size), 2):
            # The further step has a number of its own, behind all others.
            longer = plan + ((("over", source, target), ()),)
            further = done[:moment] + [(done[moment - 1][0], len(plan))] + done[moment:]
            if losses.lost_at(longer, further, number, due) is None:
                found.append((moment, source, target))
    return found


class SparedBy(unittest.TestCase):
    def test_against_leaving_out_each_step_and_each_two(self):
        lengths = []
        for office, plan, keep in some_kept_plans(70, 308):
            losses = Losses(office)
            for number, _ in keep:
                for day in (0, 5):
                    told = spared_by(office, plan, keep, number, day)
                    self.assertIs(type(told), list)
                    self.assertEqual(told, spared_by_hand(losses, plan, keep, number, day))
                    lengths.append(len(told[0]) if told else None)
        self.assertLessEqual({0, 1, 2}, set(lengths))

    def test_one_two_and_more(self):
        office = small_office()
        keep = ((0, ("+",) * 8),)
        deeds = [("write", 0, 0), ("throw", 0, 0), ("write", 0, 0), ("over", 1, 0)]
        for many, wanted in [(1, [()]), (2, [(1,)]), (3, [(1, 2)]), (4, [])]:
            self.assertEqual(spared_by(office, day_by_day(*deeds[:many]), keep, 0, 0), wanted)

    def test_the_own_writing_is_never_left_out(self):
        office = small_office()
        plan = day_by_day(("over", 1, 2), ("write", 0, 0), ("over", 2, 0), ("throw", 0, 1))
        self.assertEqual(spared_by(office, plan, ((1, ("+",) * 3),), 1, 0), [(2,)])
        self.assertEqual(spared_by(office, plan, ((1, ()),), 1, 0), [()])

    def test_two_that_each_alone_are_not_enough(self):
        office = small_office()
        # Either kept in folder 1 or in folder 0: each way needs two steps to be left out.
        plan = day_by_day(
            ("write", 0, 0),
            ("over", 0, 1),
            ("throw", 0, 0),
            ("write", 0, 0),
            ("throw", 1, 0),
            ("over", 2, 1),
        )
        self.assertEqual(spared_by(office, plan, ((0, ("+",) * 8),), 0, 0), [(2, 3), (4, 5)])


class SavedBy(unittest.TestCase):
    def test_against_one_further_over_behind_each_moment(self):
        counts = set()
        for office, plan, keep in some_kept_plans(60, 309):
            losses = Losses(office)
            for number, _ in keep:
                for day in (0, 5):
                    told = saved_by(office, plan, keep, number, day)
                    self.assertIs(type(told), list)
                    self.assertEqual(told, saved_by_hand(losses, plan, keep, number, day))
                    counts.add(len(told))
        self.assertIn(0, counts)
        self.assertGreater(len(counts), 4)

    def test_copies_in_time(self):
        office = small_office()
        plan = day_by_day(("throw", 2, 0), ("write", 0, 0), ("shut", 0), ("throw", 0, 0), ("write", 2, 0))
        keep = ((1, ("+",) * 8),)
        # Behind the writing and behind the shutting a copy in folder 1 is in time; folder 2 is written over later.
        self.assertEqual(saved_by(office, plan, keep, 1, 0), [(2, 0, 1), (3, 0, 1)])
        self.assertEqual(saved_by(office, plan[:4], keep, 1, 0), [(2, 0, 1), (2, 0, 2), (3, 0, 1), (3, 0, 2)])
        # The folder into which it is copied back is thrown away from no more.
        self.assertEqual(saved_by(office, plan[:2], keep, 1, 0), [])

    def test_two_papers_of_which_the_one_is_copied_over_the_other(self):
        office = small_office(size=2)
        plan = day_by_day(("write", 0, 0), ("write", 0, 0))
        keep = ((0, ("+",) * 8),)
        self.assertEqual(saved_by(office, plan, keep, 0, 0), [(1, 0, 1)])
        plan = day_by_day(("write", 0, 0), ("write", 0, 0), ("write", 1, 0))
        self.assertEqual(saved_by(office, plan, keep, 0, 0), [])

    def test_on_the_day_of_the_last_step(self):
        # The further step is done on the day of the writing, within the due day, or later, beyond it.
        office = small_office(size=2)
        plan = ((("write", 0, 0), ()), (("over", 1, 0), ("+", "+")))
        self.assertEqual(saved_by(office, plan, ((0, ("+", "+")),), 0, 0), [(1, 0, 1)])
        self.assertEqual(saved_by(office, plan, ((0, ("+",)),), 0, 0), [])

    def test_none_does(self):
        office = small_office(size=2)
        plan = tuple((deed, ()) for deed in [("write", 0, 0), ("over", 1, 0), ("throw", 1, 0), ("throw", 0, 0)])
        self.assertEqual(saved_by(office, plan, ((0, ()),), 0, 0), [])
        one = small_office(size=1)
        self.assertEqual(saved_by(one, day_by_day(("write", 0, 0), ("throw", 0, 0)), ((0, ("+",)),), 0, 0), [])


if __name__ == "__main__":
    unittest.main()
