"""A desk: rows of text about an office that goes on are answered with texts."""

from officepapers.checks import need_day, need_folder, need_path
from officepapers.errors import BadCommand, TooMany
from officepapers.houses import need_house, need_person, size_of
from officepapers.live import Live, live_from
from officepapers.plans import order_for
from officepapers.reasons import reason_for
from officepapers.routes import MOST_NAMES, is_name
from officepapers.sight import need_source, sees_source
from officepapers.texts import read_calendar, read_code, read_deed, read_route, show_plan

FIRST_OFFICE = ((2, (0,), (False, False), (), ()), ("bar", "keeps", "now", True), ())
SCHEME = (10, 11, (4, 3, 2, 1), 0)
DIGITS = "0123456789"
MOST_DIGITS = 30
# The kinds of the parts behind the first word of each row. Digits are as many as there are, perhaps none; a text is all
# that is left behind a blank, with its blanks.
FORMS = {
    "again": ("day",),
    "calendar": ("name", "text"),
    "can": ("digit", "digit", "source"),
    "day": (),
    "do": ("text",),
    "find": ("text",),
    "house": ("digit", "digits"),
    "list": ("digit", "digit"),
    "look": ("digit", "digit", "digit"),
    "mode": ("first", "moving", "known", "deep"),
    "order": ("day",),
    "plan": (),
    "start": ("day",),
    "undo": (),
    "wait": ("text",),
    "who": ("digit",),
    "why": ("digit", "digit"),
}
WORDS = {
    "first": ("bar", "near"),
    "moving": ("keeps", "drops"),
    "known": ("now", "login"),
    "deep": ("deep", "flat"),
}
SOURCES = {"f": "first", "w": "written"}


class Desk:
    """A desk that holds one office, at first a small one on the day 0."""

    def __init__(self):
        self._live = Live(FIRST_OFFICE, 0)

    def say(self, row):
        """The answer to the row."""
        word, told = _read_row(row)
        action = ACTIONS[word]
        self._live, answer = action(self._live, told)
        return answer


def _read_row(row):
    """The first word of the row and the list of what its other parts tell."""
    if not isinstance(row, str):
        raise BadCommand("a row is a text")
    word, *parts = row.split(" ")
    if word not in FORMS:
        raise BadCommand("the first word of the row is none that the desk knows")
    kinds = FORMS[word]
    ahead = len(kinds) - 1
    if kinds[-1:] == ("text",) and len(parts) > ahead:
        parts = parts[:ahead] + [" ".join(parts[ahead:])]
    if kinds[-1:] == ("digits",):
        kinds = kinds[:ahead] + ("digit",) * (len(parts) - ahead)
    told = [_part_told(kind, part) for kind, part in zip(kinds, parts)]
    if len(kinds) != len(parts) or None in told:
        raise BadCommand("the row is not of the form of its first word")
    return word, told


def _part_told(kind, part):
    """What the part of a row tells, if it is of the kind; else None."""
    if kind == "text" or (kind == "name" and is_name(part)) or (kind in WORDS and part in WORDS[kind]):
        return part
    if kind == "day":
        return _integer_told(part)
    if kind == "digit" and len(part) == 1:
        return _integer_told(part)
    if kind == "source" and part[:1] in SOURCES and part[1:2] != "-":
        number = _integer_told(part[1:])
        return None if number is None else (SOURCES[part[0]], number)
    return None


def _integer_told(part):
    """The integer that the part writes, None if it is none or one of too many digits."""
    digits = part[1:] if part[:1] == "-" else part
    if not 1 <= len(digits) <= MOST_DIGITS or not all([sign in DIGITS for sign in digits]):
        return None
    return None if digits[0] == "0" and part != "0" else int(part)


def _set_calendar(live, told):
    name, text = told
    calendar = read_calendar(text)
    house, mode, book = live.office
    others = [pair for pair in book if pair[0] != name]
    if len(others) == MOST_NAMES:
        raise TooMany(f"a book has at most {MOST_NAMES} names")
    return _begun_anew(live, (house, mode, tuple(sorted(others + [(name, calendar)]))))


def _set_house(live, told):
    people, *parents = told
    house = (people, tuple(parents), (False,) * (len(parents) + 1), (), ())
    need_house(house)
    _, mode, book = live.office
    return _begun_anew(live, (house, mode, book))


def _set_mode(live, told):
    first, moving, known, deep = told
    house, _, book = live.office
    return _begun_anew(live, (house, (first, moving, known, deep == "deep"), book))


def _begun_anew(live, office):
    return live_from(office, live.day), "ok"


def _start(live, told):
    return Live(live.office, told[0]), "ok"


def _start_again(live, told):
    other = live.with_start(told[0])
    return other, str(other.day)


def _wait(live, told):
    letters = read_route(told[0])
    return live, str(live.wait(*letters))


def _do(live, told):
    live.do(read_deed(live.office, told[0]))
    return live, "ok"


def _undo(live, told):
    live.undo()
    return live, "ok"


def _look(live, told):
    person, folder, path = told
    sources = live.look(person, folder, path)
    return live, "barred" if sources is None else _show_sources(sources)


def _list(live, told):
    folder, path = told
    need_folder(size_of(live.office[0]), folder)
    return live, _show_sources(live.lists(path)[folder])


def _who(live, told):
    folder = told[0]
    house = live.office[0]
    need_folder(size_of(house), folder)
    return live, " ".join([str(person) for person in range(house[0]) if (person, folder) in live]) or "nobody"


def _why(live, told):
    person, folder = told
    house, mode, _ = live.office
    return live, reason_for(house, mode, live.state(), person, folder)[0]


def _can(live, told):
    person, path, source = told
    plan = live.plan()
    need_person(live.office[0], person)
    need_path(path)
    need_source(live.office, plan, path, source)
    # The starting day may lie beyond the days that can_see takes.
    order = order_for(live.office, plan, live.starting_day)
    return live, "yes" if sees_source(live.office, plan, order, person, path, source) else "no"


def _order(live, told):
    need_day(told[0])
    order = order_for(live.office, live.plan(), told[0])
    return live, " ".join([str(number) for number in order]) or "none"


def _find(live, told):
    found = live.find(SCHEME, read_code(SCHEME, told[0]))
    return live, " ; ".join([f"w{place} {folder}" for place, folder in found]) or "none"


def _plan(live, told):
    return live, show_plan(live.plan())


def _day(live, told):
    return live, str(live.day)


def _show_sources(sources):
    return " ".join([f"{word[0]}{number}" for word, number in sources]) or "empty"


ACTIONS = {
    "again": _start_again,
    "calendar": _set_calendar,
    "can": _can,
    "day": _day,
    "do": _do,
    "find": _find,
    "house": _set_house,
    "list": _list,
    "look": _look,
    "mode": _set_mode,
    "order": _order,
    "plan": _plan,
    "start": _start,
    "undo": _undo,
    "wait": _wait,
    "who": _who,
    "why": _why,
}
