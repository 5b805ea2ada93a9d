"""How the functions take their arguments: by place and by name, which error comes first, and what stays as it was."""

import copy
import unittest

import samples
from samples import FAR

from officepapers import calendars, routes
from officepapers.errors import BadBook, BadCalendar, BadDay, BadNumber, BadRoute, NoName

CALENDAR = ("oo-", ((-3, 4), (-2, 9)), ((2, 30),))
BOOK = (("a", CALENDAR), ("b", ("-o", (), ())))
TOP_NUMBER = 10 ** 15
TOP_TIMES = 10 ** 12


def of_calendar(name):
    return (name, CALENDAR, samples.BAD_CALENDARS, BadCalendar)


def of_day(name, day):
    return (name, day, samples.BAD_DAYS, BadDay)


def of_book():
    return ("book", BOOK, samples.BAD_BOOKS, BadBook)


def of_route():
    return ("route", ("a", "+", "b"), samples.BAD_ROUTES, BadRoute)


def of_number(name, most):
    return (name, 3, samples.bad_numbers(most), BadNumber)


# Each function with its parameters: the name, a right value, wrong ones, and their error.
CALLS = [
    (calendars.is_open, [of_calendar("calendar"), of_day("day", 5)]),
    (calendars.next_open, [of_calendar("calendar"), of_day("day", 5)]),
    (calendars.last_open, [of_calendar("calendar"), of_day("day", 5)]),
    (calendars.nth_open, [of_calendar("calendar"), of_day("day", 5), of_number("number", TOP_NUMBER)]),
    (calendars.count_open, [of_calendar("calendar"), of_day("first", 5), of_day("last", 25)]),
    (calendars.unlike_day, [of_calendar("calendar"), of_calendar("other")]),
    (routes.moved, [of_book(), of_route(), of_day("day", 5)]),
    (routes.stops, [of_book(), of_route(), of_day("day", 5)]),
    (routes.latest_start, [of_book(), of_route(), of_day("day", 5)]),
    (routes.start_days, [of_book(), of_route(), of_day("day", 5)]),
    (routes.repeated, [of_book(), of_route(), of_day("day", 5), of_number("times", TOP_TIMES)]),
    (routes.times_to, [of_book(), of_route(), of_day("day", 5), of_day("goal", 70)]),
    (routes.reduced, [of_route()]),
]
WITH_BOOK = [(function, told) for function, told in CALLS if told[0][0] == "book"]


def right_values(told):
    return [right for _, right, _, _ in told]


class Calls(unittest.TestCase):
    def assert_error(self, error, function, values):
        with self.assertRaises(error) as caught:
            function(*values)
        self.assertIs(type(caught.exception), error)
        return caught.exception

    def test_each_argument_wrong_alone(self):
        for function, told in CALLS:
            for at, (_, _, wrong, error) in enumerate(told):
                for thing in wrong:
                    values = right_values(told)
                    values[at] = thing
                    self.assert_error(error, function, values)

    def test_several_wrong_at_once(self):
        for function, told in CALLS:
            for at, (_, _, wrong, error) in enumerate(told):
                values = right_values(told)[:at]
                for k in range(40):
                    behind = [others[k % len(others)] for _, _, others, _ in told[at + 1:]]
                    self.assert_error(error, function, values + [wrong[k % len(wrong)]] + behind)

    def test_no_name_comes_after_the_other_errors(self):
        for function, told in WITH_BOOK:
            values = right_values(told)
            values[1] = ("b", "+", "z", "c", "a", "z")
            self.assertEqual(self.assert_error(NoName, function, values).name, "z")
            for at in [0, *range(2, len(told))]:
                for thing in told[at][2]:
                    self.assert_error(told[at][3], function, values[:at] + [thing] + values[at + 1:])

    def test_no_name_of_an_empty_book(self):
        for function, told in WITH_BOOK:
            values = right_values(told)
            values[:2] = [(), ("+", "b", "a")]
            self.assertEqual(self.assert_error(NoName, function, values).name, "b")

    def test_no_name_also_where_the_answer_is_plain(self):
        self.assert_error(NoName, routes.times_to, [(), ("a",), 5, 5])
        self.assert_error(NoName, routes.repeated, [(), ("a",), 5, 0])

    def test_bounds_are_right_and_beyond_by_one_is_wrong(self):
        for function, told in CALLS:
            for at, (name, _, _, error) in enumerate(told):
                if error not in (BadDay, BadNumber):
                    continue
                low, high = -FAR, FAR
                if error is BadNumber:
                    low, high = 0, TOP_TIMES if name == "times" else TOP_NUMBER
                values = right_values(told)
                for bound, beyond in [(low, low - 1), (high, high + 1)]:
                    function(*values[:at], bound, *values[at + 1:])
                    self.assert_error(error, function, [*values[:at], beyond, *values[at + 1:]])

    def test_joined(self):
        route = ("a", "+")
        for thing in samples.BAD_ROUTES:
            for many in range(4):
                for at in range(many + 1):
                    values = [route] * many
                    values.insert(at, thing)
                    self.assert_error(BadRoute, routes.joined, values)
        self.assert_error(BadRoute, routes.joined, [("+",) * 8, ("+",) * 8, None])

    def test_arguments_by_their_names(self):
        for function, told in CALLS:
            named = {name: right for name, right, _, _ in told}
            wanted = function(*right_values(told))
            self.assertEqual(function(**named), wanted)
            self.assertEqual(function(**dict(reversed(list(named.items())))), wanted)

    def test_arguments_stay_and_equal_calls_return_equal_results(self):
        for function, told in CALLS:
            values = right_values(told)
            kept = copy.deepcopy(values)
            first = function(*values)
            second = function(*kept)
            self.assertEqual(values, kept)
            self.assertEqual(first, second)
            self.assertIs(type(first), type(second))
        values = [("a", "a"), ("b", "+")]
        self.assertEqual(routes.joined(*values), routes.joined(*values))
        self.assertEqual(values, [("a", "a"), ("b", "+")])

    def test_any_object_is_judged_and_left_as_it_was(self):
        for function in (calendars.is_calendar, routes.is_book, routes.is_route):
            things = [["o", (), ()], {"a": 1}, [("a", ("o", (), ()))], ["a"], "a" * 10000, 10 ** 59, nested(99)]
            kept = copy.deepcopy(things)
            for thing in things + samples.OTHERS:
                self.assertIs(function(thing), False)
            self.assertEqual(things, kept)


def nested(levels):
    thing = ()
    for _ in range(levels):
        thing = (thing,)
    return thing


if __name__ == "__main__":
    unittest.main()
