"""How the functions take their arguments: by place and by name, which error comes first, and what stays as it was."""

import copy
import unittest

import code_samples
import samples
from calls import BOOK, CALLS, JUDGES, right_values
from code_samples import RIGHT, SCHEME
from copy_samples import SCRIPT
from house_samples import HOUSE, MODE, STATE
from plan_samples import OFFICE, PLAN
from sight_samples import PAPER_PLAN

from officepapers import (
    copies,
    ever,
    houses,
    keeping,
    labels,
    moments,
    plans,
    reasons,
    reports,
    rights,
    routes,
    schemes,
    scripts,
    sight,
    slips,
)
from officepapers.errors import (
    BadCode,
    BadContents,
    BadDay,
    BadDeed,
    BadFolder,
    BadGap,
    BadKeep,
    BadMoment,
    BadNumber,
    BadOrder,
    BadPerson,
    BadPlan,
    BadRegister,
    BadReports,
    BadRoute,
    BadRow,
    BadScript,
    BadSource,
    BadState,
    BadStep,
    BadStretch,
    NoName,
    NotRight,
    TooMany,
)

WITH_BOOK = [(function, told) for function, told in CALLS if told[0].name == "book"]


class Calls(unittest.TestCase):
    def assert_error(self, error, function, values):
        with self.assertRaises(error, msg=(function, values)) as caught:
            function(*values)
        self.assertIs(type(caught.exception), error)
        return caught.exception

    def test_each_argument_wrong_alone(self):
        for function, told in CALLS:
            for at, argument in enumerate(told):
                for thing in argument.wrong:
                    values = right_values(told)
                    values[at] = thing
                    self.assert_error(argument.error, function, values)

    def test_several_wrong_at_once(self):
        for function, told in CALLS:
            for at, argument in enumerate(told):
                values = right_values(told)[:at]
                for k in range(40 if argument.wrong else 0):
                    behind = [some_wrong(other, k) for other in told[at + 1:]]
                    self.assert_error(argument.error, function, values + [some_wrong(argument, k)] + behind)

    def test_no_name_comes_after_the_other_errors(self):
        for function, told in WITH_BOOK:
            values = right_values(told)
            values[1] = ("b", "+", "z", "c", "a", "z")
            self.assertEqual(self.assert_error(NoName, function, values).name, "z")
            for at in [0, *range(2, len(told))]:
                for thing in told[at].wrong:
                    self.assert_error(told[at].error, function, values[:at] + [thing] + values[at + 1:])

    def test_no_name_of_an_empty_book(self):
        for function, told in WITH_BOOK:
            values = right_values(told)
            values[:2] = [(), ("+", "b", "a")]
            self.assertEqual(self.assert_error(NoName, function, values).name, "b")

    def test_no_name_also_where_the_answer_is_plain(self):
        self.assert_error(NoName, routes.times_to, [(), ("a",), 5, 5])
        self.assert_error(NoName, routes.repeated, [(), ("a",), 5, 0])

    def test_bounds_are_right_and_beyond_by_one_is_wrong(self):
        for function, told in CALLS:
            for at, argument in enumerate(told):
                if argument.bounds is None:
                    continue
                low, high = argument.bounds
                values = right_values(told)
                for bound, beyond in [(low, low - 1), (high, high + 1)]:
                    function(*values[:at], bound, *values[at + 1:])
                    self.assert_error(argument.error, function, [*values[:at], beyond, *values[at + 1:]])

    def test_bounds_of_sizes_and_paths(self):
        for function, told in CALLS:
            if [argument.name for argument in told[:3]] == ["size", "script", "path"]:
                behind = [("first", 0) if one.name == "source" else one.right for one in told[3:]]
                behind = [0 if one == 2 else (0,) if one == (0, 2) else one for one in behind]
                for size in (1, 6):
                    for path in (0, 3):
                        function(size, (), path, *behind)

    def test_joined(self):
        route = ("a", "+")
        for thing in samples.BAD_ROUTES:
            for many in range(4):
                for at in range(many + 1):
                    values = [route] * many
                    values.insert(at, thing)
                    self.assert_error(BadRoute, routes.joined, values)
        self.assert_error(BadRoute, routes.joined, [("+",) * 8, ("+",) * 8, None])

    def test_not_right_comes_after_the_other_errors(self):
        self.assert_error(NotRight, schemes.number_of, [SCHEME, (0, 0, 0)])
        self.assert_error(NotRight, schemes.sure_digits, [SCHEME, (0, 0, 0)])
        none = (3, 6, (2, 4, 2), 1)
        self.assert_error(NotRight, schemes.number_of, [none, (0, 0, 0)])
        self.assert_error(NotRight, schemes.sure_digits, [none, (None, None, None)])
        for thing in code_samples.BAD_CODES:
            self.assert_error(BadCode, schemes.number_of, [none, thing])
        for thing in code_samples.BAD_GAPS:
            # The base of this scheme is less by one.
            self.assert_error(BadGap, schemes.sure_digits, [none, thing])
            self.assert_error(BadGap, schemes.nth_fill, [none, thing, 0])
        self.assert_error(BadNumber, schemes.nth_fill, [SCHEME, (0, 0, 0), 0])

    def test_what_is_right_by_the_arguments_ahead_alone(self):
        pair = (10, 11, (4, 3), 0)
        self.assert_error(BadCode, schemes.is_right, [pair, (1, 2, 3)])
        self.assert_error(BadCode, slips.fixes, [pair, (1, 10)])
        self.assert_error(BadGap, schemes.count_fills, [pair, (1, None, 3)])
        self.assert_error(BadRegister, slips.near_pairs, [pair, (RIGHT[0],)])
        self.assert_error(BadRegister, slips.read_typed, [pair, ((1, 1),), (0, 0)])
        self.assertEqual(slips.read_typed(pair, ((0, 0), (1, 6)), (0, 0)), [(0, 0)])
        self.assert_error(BadScript, copies.lists_of, [2, SCRIPT, 0])
        self.assert_error(BadScript, copies.lists_of, [1, (("over", 0, 1),), 0])
        self.assert_error(BadContents, copies.papers_at, [2, (), 0, (0, 2)])
        self.assert_error(BadFolder, copies.trail, [2, (), 0, 2, ("first", 0)])
        self.assert_error(BadSource, copies.trail, [2, (), 0, 1, ("first", 2)])
        self.assert_error(BadSource, copies.trail, [2, (), 0, 1, ("written", 0)])
        self.assert_error(BadSource, copies.contents_for, [2, (("write", 0, 1),), 0, 1, ("written", 0)])
        self.assert_error(BadContents, copies.trail_holds, [2, (), 0, 1, ("first", 1), (2,), ()])
        self.assert_error(BadScript, scripts.same_script, [3, (), (("over", 0, 3),)])
        self.assert_error(BadScript, scripts.idle_deeds, [2, SCRIPT])
        self.assert_error(BadFolder, scripts.script_for, [2, 2, (2,)])
        self.assert_error(BadRow, scripts.script_for, [2, 1, (0, 1, 2)])
        self.assert_error(BadFolder, reports.explained, [2, 2, ()])
        self.assert_error(BadReports, reports.explained, [2, 1, (((1, 2), 1),)])

    def test_what_is_right_by_the_house_alone(self):
        house = (1, (0,), (False, False), (), ())
        state = ((0,), (False, False), (), (), ((),))
        self.assertEqual(houses.all_sights(house, MODE, state), [])
        self.assert_error(BadState, houses.all_sights, [house, MODE, STATE])
        self.assert_error(BadState, rights.idle_entries, [HOUSE, MODE, state])
        for call in (houses.sees, reasons.reason_for, rights.turning_deeds):
            call(house, MODE, state, 0, 1)
            self.assert_error(BadPerson, call, [house, MODE, state, 1, 2])
            self.assert_error(BadFolder, call, [house, MODE, state, 0, 2])
        self.assert_error(BadPerson, rights.seen_modes, [house, state, 1, 2])
        self.assert_error(BadFolder, rights.seen_modes, [house, state, 0, 2])
        for deed in [("move", 1, 2), ("login", 1), ("allow", 2, ("p", 0)), ("join", 0, ("p", 1))]:
            self.assert_error(BadDeed, rights.after_right, [house, MODE, state, deed])
            self.assert_error(BadDeed, rights.commute, [house, MODE, ("shut", 1), deed])

    def test_what_is_right_by_the_office_and_the_plan_alone(self):
        office = ((1, (0,), (False, False), (), ()), MODE, ())
        plan = ((("over", 0, 1), ("+",)), (("login", 0), ()))
        self.assertEqual(plans.order_at(office, plan, 0), (1, 0))
        for wrong in [(("over", 0, 2), ()), (("login", 1), ()), (("look", 1, 0, 0), ()), (("shut", 0), ("a",))]:
            self.assert_error(BadPlan, plans.history, [office, plan + (wrong,), 0])
        self.assert_error(BadStep, plans.day_of, [office, plan, 2, 0])
        self.assert_error(BadStep, plans.ahead_word, [office, plan, 1, 2])
        self.assert_error(BadMoment, moments.state_at, [office, plan, 0, 3])
        self.assert_error(BadOrder, plans.next_with, [office, plan, (1, 0, 2), 0])

    def test_what_is_seen_and_kept_by_the_office_and_the_plan_alone(self):
        office = ((1, (0,), (False, False), ((0, ("p", 0), "allow"),), ()), MODE, (("a", ("o", (), ())),))
        plan = ((("over", 0, 1), ("+",)), (("write", 0, 1), ("a",)), (("look", 0, 1, 1), ()))
        for call in (sight.sights, sight.sure_sights):
            self.assertTrue(call(office, plan, 0, 0, 1))
            self.assert_error(BadPerson, call, [office, plan, 0, 1, 1])
        for contents in [(2,), (0, 2)]:
            self.assert_error(BadContents, sight.alike_contents, [office, plan, 0, 0, 1, contents])
            self.assert_error(BadContents, sight.look_shows, [office, plan, 0, 2, contents])
            self.assert_error(BadContents, labels.found_typed, [SCHEME, office, plan, 0, 0, contents, (0, 0, 0)])
        for call in (sight.can_see, sight.sight_paper, ever.least_cuts):
            call(office, plan, 0, 0, 1, ("written", 1))
            for source in [("first", 2), ("written", 0), ("written", 2), ("written", 3)]:
                self.assert_error(BadSource, call, [office, plan, 0, 0, 1, source])
            self.assert_error(BadSource, call, [office, plan, 0, 0, 0, ("written", 1)])
        self.assert_error(BadSource, ever.ever_sees, [office, plan, 0, 0, ("written", 1)])
        for call in (lambda *told: sight.look_sources(*told[:2], 0, *told[2:]), ever.ever_look):
            self.assertTrue(call(office, plan, 2))
            self.assert_error(BadStep, call, [office, plan, 1])
            self.assert_error(BadStep, call, [office, plan, 3])
        for keep in [((0, ()),), ((1, ("b",)),), ((2, ()),), ((3, ()),)]:
            self.assert_error(BadKeep, keeping.keep_word, [office, plan, keep])
        self.assertEqual(keeping.keep_word(office, plan, ((1, ("a",)),)), ("always", None))
        self.assert_error(BadStep, keeping.whereabouts, [office, plan, 0, 0])
        self.assert_error(BadMoment, labels.found_typed, [SCHEME, office, plan, 0, 4, (), (0, 0, 0)])
        self.assert_error(BadCode, labels.found_typed, [SCHEME, office, plan, 0, 3, (), (0, 0)])

    def test_too_many_comes_after_the_other_errors(self):
        none = (3, 6, (2, 4, 2), 1)
        self.assert_error(TooMany, labels.labels, [none, OFFICE, PAPER_PLAN])
        self.assert_error(TooMany, labels.found_typed, [none, OFFICE, PAPER_PLAN, 0, 0, (), (0, 0, 0)])
        self.assert_error(BadPlan, labels.labels, [none, OFFICE, PAPER_PLAN * 2])
        self.assert_error(BadCode, labels.found_typed, [none, OFFICE, PAPER_PLAN, 0, 0, (), (0, 0, 3)])
        self.assert_error(BadContents, labels.found_typed, [none, OFFICE, PAPER_PLAN, 0, 0, (4,), (0, 0, 3)])

    def test_bad_stretch_comes_after_the_other_errors(self):
        order = tuple(range(len(PLAN)))
        self.assert_error(BadStretch, plans.days_with, [OFFICE, PLAN, order, 1, 0])
        self.assert_error(BadStretch, plans.stretches, [OFFICE, PLAN, 1, 0])
        self.assert_error(BadOrder, plans.days_with, [OFFICE, PLAN, order[1:], 1, 0])
        self.assert_error(BadDay, plans.days_with, [OFFICE, PLAN, order, 10 ** 15 + 1, 0])
        self.assert_error(BadDay, plans.days_with, [OFFICE, PLAN, order, 0, -10 ** 15 - 1])
        self.assert_error(BadPlan, plans.stretches, [OFFICE, (PLAN,), 1, 0])

    def test_arguments_by_their_names(self):
        for function, told in CALLS:
            named = {argument.name: argument.right for argument in told}
            wanted = function(*right_values(told))
            self.assertEqual(function(**named), wanted)
            self.assertEqual(function(**dict(reversed(list(named.items())))), wanted)

    def test_arguments_stay_and_equal_calls_return_equal_results(self):
        for function, told in CALLS:
            values = right_values(told)
            kept = copy.deepcopy(values)
            first = function(*values)
            second = function(*kept)
            self.assertEqual(values, kept)
            self.assertEqual(first, second)
            self.assertIs(type(first), type(second))
        values = [("a", "a"), ("b", "+")]
        self.assertEqual(routes.joined(*values), routes.joined(*values))
        self.assertEqual(values, [("a", "a"), ("b", "+")])

    def test_a_returned_list_may_be_changed(self):
        for function, told in CALLS:
            first = function(*right_values(told))
            if isinstance(first, list):
                kept = list(first)
                first.append(None)
                first[0] = None
                self.assertEqual(function(*right_values(told)), kept)

    def test_any_object_is_judged_and_left_as_it_was(self):
        for function, ahead in JUDGES:
            things = [["o", (), ()], {"a": 1}, [BOOK], ["a"], "a" * 10000, 10 ** 59, nested(99), [], [1, 2, 3]]
            kept = copy.deepcopy(things)
            for thing in things + samples.OTHERS:
                self.assertIs(function(*ahead, thing), False, (function, thing))
            self.assertEqual(things, kept)


def some_wrong(argument, k):
    return argument.wrong[k % len(argument.wrong)] if argument.wrong else argument.right


def nested(levels):
    thing = ()
    for _ in range(levels):
        thing = (thing,)
    return thing


if __name__ == "__main__":
    unittest.main()
