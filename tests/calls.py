"""Each function with its parameters: what is right for them, what is wrong, and which error it raises."""

from collections import namedtuple

import code_samples
import copy_samples
import samples
from code_samples import RIGHT, SCHEME
from copy_samples import SCRIPT, SIZE

from officepapers import calendars, copies, routes, schemes, slips, spelling
from officepapers.errors import (
    BadBook,
    BadCalendar,
    BadCode,
    BadContents,
    BadDay,
    BadFolder,
    BadGap,
    BadKind,
    BadNumber,
    BadPath,
    BadRegister,
    BadRoute,
    BadScheme,
    BadScript,
    BadSize,
    BadSource,
)

# The bounds are the least and the greatest integer that is right; None where there are no such bounds.
Argument = namedtuple("Argument", "name right wrong error bounds")

CALENDAR = ("oo-", ((-3, 4), (-2, 9)), ((2, 30),))
BOOK = (("a", CALENDAR), ("b", ("-o", (), ())))
FAR = 10 ** 15


def of_calendar(name):
    return Argument(name, CALENDAR, samples.BAD_CALENDARS, BadCalendar, None)


def of_day(name, day):
    return Argument(name, day, samples.BAD_DAYS, BadDay, (-FAR, FAR))


def of_number(name, most):
    return Argument(name, min(3, most), samples.bad_numbers(most), BadNumber, (0, most))


def of_route(name):
    return Argument(name, ("a", "+", "b"), samples.BAD_ROUTES, BadRoute, None)


def of_any(name, things):
    """A parameter that accepts any object."""
    return Argument(name, things, [], None, None)


A_CALENDAR = of_calendar("calendar")
A_BOOK = Argument("book", BOOK, samples.BAD_BOOKS, BadBook, None)
A_ROUTE = of_route("route")
A_DAY = of_day("day", 5)
A_SCHEME = Argument("scheme", SCHEME, code_samples.BAD_SCHEMES, BadScheme, None)
A_CODE = Argument("code", (1, 2, 3), code_samples.BAD_CODES, BadCode, None)
A_RIGHT_CODE = A_CODE._replace(right=RIGHT[2])
A_GAP = Argument("gap", (None, 1, None), code_samples.BAD_GAPS, BadGap, None)
A_KIND = Argument("kind", "digit", code_samples.BAD_KINDS, BadKind, None)
A_REGISTER = Argument("codes", tuple(RIGHT[1:7]), code_samples.BAD_REGISTERS, BadRegister, None)
A_SIZE = Argument("size", SIZE, copy_samples.BAD_SIZES, BadSize, None)
A_SCRIPT = Argument("script", SCRIPT, copy_samples.BAD_SCRIPTS, BadScript, None)
A_PATH = Argument("path", 2, copy_samples.BAD_PATHS, BadPath, None)
A_FOLDER = Argument("folder", 2, copy_samples.BAD_FOLDERS, BadFolder, (0, SIZE - 1))
A_SOURCE = Argument("source", ("written", 1), copy_samples.BAD_SOURCES, BadSource, None)
CONTENTS = Argument("contents", (0, 2), copy_samples.BAD_CONTENTS, BadContents, None)

WORK = [A_SIZE, A_SCRIPT, A_PATH]

CALLS = [
    (calendars.is_open, [A_CALENDAR, A_DAY]),
    (calendars.next_open, [A_CALENDAR, A_DAY]),
    (calendars.last_open, [A_CALENDAR, A_DAY]),
    (calendars.nth_open, [A_CALENDAR, A_DAY, of_number("number", 10 ** 15)]),
    (calendars.count_open, [A_CALENDAR, of_day("first", 5), of_day("last", 25)]),
    (calendars.unlike_day, [A_CALENDAR, of_calendar("other")]),
    (routes.moved, [A_BOOK, A_ROUTE, A_DAY]),
    (routes.stops, [A_BOOK, A_ROUTE, A_DAY]),
    (routes.latest_start, [A_BOOK, A_ROUTE, A_DAY]),
    (routes.start_days, [A_BOOK, A_ROUTE, A_DAY]),
    (routes.repeated, [A_BOOK, A_ROUTE, A_DAY, of_number("times", 10 ** 12)]),
    (routes.times_to, [A_BOOK, A_ROUTE, A_DAY, of_day("goal", 70)]),
    (routes.reduced, [A_ROUTE]),
    (spelling.never_later, [A_ROUTE, of_route("other")]),
    (spelling.spelled_at, [A_ROUTE, of_route("other")]),
    (spelling.later_shown, [A_ROUTE, of_route("other")._replace(right=("+", "b", "a"))]),
    (spelling.later_holds, [A_ROUTE, of_route("other"), of_any("thing", ((("a", ()), ("b", (0, 1))), 0))]),
    (schemes.is_code, [A_SCHEME, of_any("thing", (1, 2, 3))]),
    (schemes.is_right, [A_SCHEME, A_CODE]),
    (schemes.count_right, [A_SCHEME]),
    (schemes.nth_right, [A_SCHEME, of_number("number", len(RIGHT) - 1)]),
    (schemes.number_of, [A_SCHEME, A_RIGHT_CODE]),
    (schemes.next_right, [A_SCHEME, A_CODE]),
    (schemes.count_below, [A_SCHEME, A_CODE]),
    (schemes.count_fills, [A_SCHEME, A_GAP]),
    (schemes.nth_fill, [A_SCHEME, A_GAP, of_number("number", len([code for code in RIGHT if code[1] == 1]) - 1)]),
    (schemes.sure_digits, [A_SCHEME, A_GAP]),
    (slips.fixes, [A_SCHEME, A_CODE]),
    (slips.unnoticed, [A_SCHEME, A_KIND]),
    (slips.count_unnoticed, [A_SCHEME, A_KIND]),
    (slips.closest_right, [A_SCHEME, A_CODE]),
    (slips.near_pairs, [A_SCHEME, A_REGISTER]),
    (slips.read_typed, [A_SCHEME, A_REGISTER, A_CODE]),
    (slips.safe_register, [A_SCHEME, of_number("count", 8)]),
    (copies.is_script, [A_SIZE, of_any("thing", SCRIPT)]),
    (copies.lists_of, WORK),
    (copies.papers_at, [*WORK, CONTENTS]),
    (copies.lists_along, WORK),
    (copies.contents_for, [*WORK, A_FOLDER, A_SOURCE]),
    (copies.trail, [*WORK, A_FOLDER, A_SOURCE]),
    (copies.trail_holds, [*WORK, A_FOLDER, A_SOURCE, CONTENTS, of_any("thing", (5,))]),
]

# Each function that accepts any object, with the arguments ahead of it, if there are any.
JUDGES = [
    (calendars.is_calendar, []),
    (routes.is_book, []),
    (routes.is_route, []),
    (spelling.later_holds, [("a",), ("b",)]),
    (schemes.is_scheme, []),
    (schemes.is_code, [SCHEME]),
    (copies.is_script, [SIZE]),
    (copies.trail_holds, [SIZE, SCRIPT, 2, 2, ("written", 1), ()]),
]


def right_values(told):
    return [argument.right for argument in told]
