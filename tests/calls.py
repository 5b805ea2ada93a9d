"""Each function with its parameters: what is right for them, what is wrong, and which error it raises."""

from collections import namedtuple

import code_samples
import copy_samples
import house_samples
import plan_samples
import report_samples
import samples
import sight_samples
from code_samples import RIGHT, SCHEME
from copy_samples import SCRIPT, SIZE, without_writes
from house_samples import HOUSE, MODE, STATE
from plan_samples import OFFICE, PLAN
from report_samples import REPORTS
from sight_samples import KEEP, PAPER_PLAN, PAPER_SOURCE

from officepapers import (
    calendars,
    copies,
    ever,
    houses,
    keeping,
    labels,
    moments,
    plans,
    reasons,
    reports,
    rights,
    routes,
    schemes,
    scripts,
    sight,
    slips,
    spelling,
    texts,
)
from officepapers.errors import (
    BadBook,
    BadCalendar,
    BadCode,
    BadContents,
    BadDay,
    BadDeed,
    BadFolder,
    BadGap,
    BadHouse,
    BadKeep,
    BadKind,
    BadMode,
    BadMoment,
    BadNumber,
    BadOffice,
    BadOrder,
    BadPath,
    BadPerson,
    BadPlan,
    BadRegister,
    BadReports,
    BadRoute,
    BadRow,
    BadScheme,
    BadScript,
    BadSize,
    BadSource,
    BadState,
    BadStep,
    BadText,
)

# The bounds are the least and the greatest integer that is right; None where there are no such bounds.
Argument = namedtuple("Argument", "name right wrong error bounds")

CALENDAR = ("oo-", ((-3, 4), (-2, 9)), ((2, 30),))
BOOK = (("a", CALENDAR), ("b", ("-o", (), ())))
FAR = 10 ** 15


def of_calendar(name):
    return Argument(name, CALENDAR, samples.BAD_CALENDARS, BadCalendar, None)


def of_day(name, day):
    return Argument(name, day, samples.BAD_DAYS, BadDay, (-FAR, FAR))


def of_number(name, most):
    return Argument(name, min(3, most), samples.bad_numbers(most), BadNumber, (0, most))


def of_route(name):
    return Argument(name, ("a", "+", "b"), samples.BAD_ROUTES, BadRoute, None)


def of_any(name, things):
    """A parameter that accepts any object."""
    return Argument(name, things, [], None, None)


A_CALENDAR = of_calendar("calendar")
A_BOOK = Argument("book", BOOK, samples.BAD_BOOKS, BadBook, None)
A_ROUTE = of_route("route")
A_DAY = of_day("day", 5)
A_SCHEME = Argument("scheme", SCHEME, code_samples.BAD_SCHEMES, BadScheme, None)
A_CODE = Argument("code", (1, 2, 3), code_samples.BAD_CODES, BadCode, None)
A_RIGHT_CODE = A_CODE._replace(right=RIGHT[2])
A_GAP = Argument("gap", (None, 1, None), code_samples.BAD_GAPS, BadGap, None)
A_KIND = Argument("kind", "digit", code_samples.BAD_KINDS, BadKind, None)
A_REGISTER = Argument("codes", tuple(RIGHT[1:7]), code_samples.BAD_REGISTERS, BadRegister, None)
A_SIZE = Argument("size", SIZE, copy_samples.BAD_SIZES, BadSize, None)
A_SCRIPT = Argument("script", SCRIPT, copy_samples.BAD_SCRIPTS, BadScript, None)
A_PATH = Argument("path", 2, copy_samples.BAD_PATHS, BadPath, None)
A_FOLDER = Argument("folder", 2, copy_samples.BAD_FOLDERS, BadFolder, (0, SIZE - 1))
A_SOURCE = Argument("source", ("written", 1), copy_samples.BAD_SOURCES, BadSource, None)
CONTENTS = Argument("contents", (0, 2), copy_samples.BAD_CONTENTS, BadContents, None)

WORK = [A_SIZE, A_SCRIPT, A_PATH]


def of_copying(name):
    """A script without a "write"."""
    return Argument(name, without_writes(SCRIPT), copy_samples.BAD_SCRIPTS + [SCRIPT], BadScript, None)


A_ROW = Argument("row", (1, 2, 0), copy_samples.BAD_ROWS, BadRow, None)
TOLD = [
    A_SIZE._replace(right=report_samples.SIZE),
    A_FOLDER._replace(wrong=house_samples.BAD_FOLDERS, bounds=(0, report_samples.SIZE - 1)),
    Argument("reports", REPORTS, report_samples.BAD_REPORTS, BadReports, None),
]

A_HOUSE = Argument("house", HOUSE, house_samples.BAD_HOUSES, BadHouse, None)
A_MODE = Argument("mode", MODE, house_samples.BAD_MODES, BadMode, None)
A_STATE = Argument("state", STATE, house_samples.BAD_STATES, BadState, None)
A_PERSON = Argument("person", 1, house_samples.BAD_PERSONS, BadPerson, (0, 2))
IN_HOUSE = Argument("folder", 2, house_samples.BAD_FOLDERS, BadFolder, (0, 3))
HELD = [A_HOUSE, A_MODE, A_STATE]


def of_deed(name, deed):
    return Argument(name, deed, house_samples.BAD_RIGHT_DEEDS, BadDeed, None)


def of_step(name, number):
    return Argument(name, number, plan_samples.BAD_STEP_NUMBERS, BadStep, (0, len(PLAN) - 1))


PLANNED = [
    Argument("office", OFFICE, plan_samples.BAD_OFFICES, BadOffice, None),
    Argument("plan", PLAN, plan_samples.BAD_PLANS, BadPlan, None),
]
A_MOMENT = Argument("moment", 4, plan_samples.BAD_MOMENTS, BadMoment, (0, len(PLAN)))
# Each bound of the one day makes a wrong stretch with the other one.
STRETCH = [of_day("first", 5)._replace(bounds=None), of_day("last", 25)._replace(bounds=None)]
AN_ORDER = Argument("order", (1, 4, 0, 2, 3, 6, 5), plan_samples.BAD_ORDERS, BadOrder, None)
TWO_STEPS = [of_step("number", 5)._replace(bounds=(1, 6)), of_step("other", 0)._replace(bounds=(0, 4))]

SEEN = [PLANNED[0], PLANNED[1]._replace(right=PAPER_PLAN)]
WATCHED = [A_PERSON, A_PATH._replace(right=3)]
A_SIGHT = Argument("source", PAPER_SOURCE, sight_samples.BAD_PLAN_SOURCES, BadSource, None)
OF_FOUR = CONTENTS._replace(wrong=sight_samples.BAD_FOUR_CONTENTS)
A_LOOK = Argument("number", 3, sight_samples.BAD_LOOK_NUMBERS, BadStep, None)
A_WRITE = Argument("number", 2, sight_samples.BAD_WRITE_NUMBERS, BadStep, None)
A_KEEP = Argument("keep", KEEP, sight_samples.BAD_KEEPS, BadKeep, None)
KEPT = [*SEEN, A_KEEP, A_WRITE._replace(right=4), A_DAY]
# A scheme of which as many codes as PAPER_PLAN writes papers are safe together.
SAFE = A_SCHEME._replace(right=(4, 5, (1, 2, 3), 0))


def of_text(right):
    wrong = [thing for thing in samples.OTHERS if not isinstance(thing, str)] + [5, (), ("o",), b"o", "", " ", "xx x"]
    return Argument("text", right, wrong, BadText, None)


CALLS = [
    (calendars.is_open, [A_CALENDAR, A_DAY]),
    (calendars.next_open, [A_CALENDAR, A_DAY]),
    (calendars.last_open, [A_CALENDAR, A_DAY]),
    (calendars.nth_open, [A_CALENDAR, A_DAY, of_number("number", 10 ** 15)]),
    (calendars.count_open, [A_CALENDAR, of_day("first", 5), of_day("last", 25)]),
    (calendars.unlike_day, [A_CALENDAR, of_calendar("other")]),
    (routes.moved, [A_BOOK, A_ROUTE, A_DAY]),
    (routes.stops, [A_BOOK, A_ROUTE, A_DAY]),
    (routes.latest_start, [A_BOOK, A_ROUTE, A_DAY]),
    (routes.start_days, [A_BOOK, A_ROUTE, A_DAY]),
    (routes.repeated, [A_BOOK, A_ROUTE, A_DAY, of_number("times", 10 ** 12)]),
    (routes.times_to, [A_BOOK, A_ROUTE, A_DAY, of_day("goal", 70)]),
    (routes.reduced, [A_ROUTE]),
    (spelling.never_later, [A_ROUTE, of_route("other")]),
    (spelling.spelled_at, [A_ROUTE, of_route("other")]),
    (spelling.later_shown, [A_ROUTE, of_route("other")._replace(right=("+", "b", "a"))]),
    (spelling.later_holds, [A_ROUTE, of_route("other"), of_any("thing", ((("a", ()), ("b", (0, 1))), 0))]),
    (schemes.is_code, [A_SCHEME, of_any("thing", (1, 2, 3))]),
    (schemes.is_right, [A_SCHEME, A_CODE]),
    (schemes.count_right, [A_SCHEME]),
    (schemes.nth_right, [A_SCHEME, of_number("number", len(RIGHT) - 1)]),
    (schemes.number_of, [A_SCHEME, A_RIGHT_CODE]),
    (schemes.next_right, [A_SCHEME, A_CODE]),
    (schemes.count_below, [A_SCHEME, A_CODE]),
    (schemes.count_fills, [A_SCHEME, A_GAP]),
    (schemes.nth_fill, [A_SCHEME, A_GAP, of_number("number", len([code for code in RIGHT if code[1] == 1]) - 1)]),
    (schemes.sure_digits, [A_SCHEME, A_GAP]),
    (slips.fixes, [A_SCHEME, A_CODE]),
    (slips.unnoticed, [A_SCHEME, A_KIND]),
    (slips.count_unnoticed, [A_SCHEME, A_KIND]),
    (slips.closest_right, [A_SCHEME, A_CODE]),
    (slips.near_pairs, [A_SCHEME, A_REGISTER]),
    (slips.read_typed, [A_SCHEME, A_REGISTER, A_CODE]),
    (slips.safe_register, [A_SCHEME, of_number("count", 8)]),
    (copies.is_script, [A_SIZE, of_any("thing", SCRIPT)]),
    (copies.lists_of, WORK),
    (copies.papers_at, [*WORK, CONTENTS]),
    (copies.lists_along, WORK),
    (copies.contents_for, [*WORK, A_FOLDER, A_SOURCE]),
    (copies.trail, [*WORK, A_FOLDER, A_SOURCE]),
    (copies.trail_holds, [*WORK, A_FOLDER, A_SOURCE, CONTENTS, of_any("thing", (5,))]),
    (scripts.same_script, [A_SIZE, of_copying("script"), of_copying("other")._replace(right=(("over", 2, 0),))]),
    (scripts.idle_deeds, [A_SIZE, A_SCRIPT]),
    (scripts.least_script, [A_SIZE, A_SCRIPT]),
    (scripts.lists_after, [A_SIZE, of_copying("script"), A_PATH, of_number("times", 10 ** 15)]),
    (scripts.settling, [A_SIZE, of_copying("script")]),
    (scripts.script_for, [A_SIZE, A_FOLDER, A_ROW]),
    (reports.explained, TOLD),
    (reports.against, TOLD),
    (reports.against_holds, [*TOLD, of_any("thing", ("lost", 2, 3))]),
    (houses.first_state, [A_HOUSE, A_MODE]),
    (houses.sees, [*HELD, A_PERSON, IN_HOUSE]),
    (houses.all_sights, HELD),
    (rights.after_right, [*HELD, of_deed("deed", ("move", 2, 3))]),
    (rights.commute, [A_HOUSE, A_MODE, of_deed("deed", ("move", 2, 3)), of_deed("other", ("bar", 2, ("p", 0)))]),
    (rights.turning_deeds, [*HELD, A_PERSON, IN_HOUSE]),
    (rights.idle_entries, HELD),
    (rights.seen_modes, [A_HOUSE, A_STATE, A_PERSON, IN_HOUSE._replace(right=3)]),
    (reasons.reason_for, [*HELD, A_PERSON, IN_HOUSE]),
    (reasons.reason_holds, [*HELD, A_PERSON, IN_HOUSE, of_any("reason", ("nothing", (2,), (0, 1, 2)))]),
    (plans.is_plan, [PLANNED[0], of_any("thing", PLAN)]),
    (plans.day_of, [*PLANNED, of_step("number", 2), A_DAY]),
    (plans.history, [*PLANNED, A_DAY]),
    (plans.order_at, [*PLANNED, A_DAY]),
    (plans.latest_done, [*PLANNED, A_DAY]),
    (plans.stretches, [*PLANNED, *STRETCH]),
    (plans.next_change, [*PLANNED, A_DAY]),
    (plans.orders_ever, PLANNED),
    (plans.days_with, [*PLANNED, AN_ORDER, *STRETCH]),
    (plans.next_with, [*PLANNED, AN_ORDER, A_DAY]),
    (plans.ahead_word, [*PLANNED, *TWO_STEPS]),
    (plans.ahead_anyhow, [*PLANNED, *TWO_STEPS]),
    (moments.state_at, [*PLANNED, A_DAY, A_MOMENT]),
    (moments.lists_at, [*PLANNED, A_DAY, A_MOMENT, A_PATH]),
    (moments.day_at, [*PLANNED, A_DAY, A_MOMENT]),
    (moments.script_at, [*PLANNED, A_DAY, A_MOMENT]),
    (moments.swap_steps, [*PLANNED, A_DAY]),
    (moments.alike_days, [*PLANNED, A_DAY, of_day("other", 8)]),
    (sight.sights, [*SEEN, A_DAY, *WATCHED]),
    (sight.sure_sights, [*SEEN, A_DAY, *WATCHED]),
    (sight.alike_contents, [*SEEN, A_DAY, *WATCHED, OF_FOUR]),
    (sight.can_see, [*SEEN, A_DAY, *WATCHED, A_SIGHT]),
    (sight.look_sources, [*SEEN, A_DAY, A_LOOK]),
    (sight.look_shows, [*SEEN, A_DAY, A_LOOK, OF_FOUR]),
    (sight.sight_paper, [*SEEN, A_DAY, *WATCHED, A_SIGHT]),
    (sight.sight_holds, [*SEEN, A_DAY, *WATCHED, A_SIGHT, of_any("thing", (4, 0, (), (), ("sees", 0, ("g", 1), (0, 1))))]),
    (ever.ever_sees, [*SEEN, *WATCHED, A_SIGHT]),
    (ever.ever_look, [*SEEN, A_LOOK]),
    (ever.least_cuts, [*SEEN, A_DAY, *WATCHED, A_SIGHT._replace(right=("first", 2))]),
    (ever.idle_steps, [*SEEN, A_DAY]),
    (ever.ever_idle, SEEN),
    (keeping.due_day, KEPT),
    (keeping.lost_papers, [*SEEN, A_KEEP, A_DAY]),
    (keeping.keep_word, [*SEEN, A_KEEP]),
    (keeping.ever_kept, [*SEEN, A_KEEP]),
    (keeping.latest_for, KEPT),
    (keeping.whereabouts, [*SEEN, A_DAY, A_WRITE]),
    (keeping.spared_by, KEPT),
    (keeping.saved_by, KEPT),
    (labels.labels, [SAFE, *SEEN]),
    (labels.found_typed, [SAFE, *SEEN, A_DAY, A_MOMENT, OF_FOUR, A_CODE._replace(right=(0, 1, 0))]),
    (texts.show_calendar, [of_any("calendar", CALENDAR)]),
    (texts.show_route, [of_any("route", ("a", "+"))]),
    (texts.show_code, [of_any("code", (1, 2, 3))]),
    (texts.show_deed, [of_any("deed", ("allow", 0, ("g", 2)))]),
    (texts.show_plan, [of_any("plan", PLAN)]),
    (texts.read_calendar, [of_text("o closed -3 4 opened 2 9")]),
    (texts.read_route, [of_text("a + b")]),
    (texts.read_code, [A_SCHEME, of_text("123")]),
    (texts.read_deed, [PLANNED[0], of_text("move 2 3")]),
    (texts.read_plan, [PLANNED[0], of_text("move 2 3 : a + ; look 2 1 3 : .")]),
]

# Each function that accepts any object, with the arguments ahead of it, if there are any.
JUDGES = [
    (calendars.is_calendar, []),
    (routes.is_book, []),
    (routes.is_route, []),
    (spelling.later_holds, [("a",), ("b",)]),
    (schemes.is_scheme, []),
    (schemes.is_code, [SCHEME]),
    (copies.is_script, [SIZE]),
    (copies.trail_holds, [SIZE, SCRIPT, 2, 2, ("written", 1), ()]),
    (reports.against_holds, [report_samples.SIZE, 2, REPORTS]),
    (houses.is_house, []),
    (houses.is_mode, []),
    (reasons.reason_holds, [HOUSE, MODE, STATE, 1, 2]),
    (plans.is_office, []),
    (plans.is_plan, [OFFICE]),
    (sight.sight_holds, [OFFICE, PAPER_PLAN, 5, 1, 3, PAPER_SOURCE]),
]


def right_values(told):
    return [argument.right for argument in told]
