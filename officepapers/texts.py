"""Texts: how calendars, routes, codes, deeds and plans are written, and read back word by word."""

from officepapers.calendars import FIRST_NEAR, LAST_NEAR, MOST_SPANS, is_pattern
from officepapers.checks import PATHS
from officepapers.copies import COPIES
from officepapers.errors import BadText
from officepapers.houses import GROUPS, all_whos, size_of
from officepapers.plans import MOST_STEPS, need_office
from officepapers.routes import MOST_LETTERS
from officepapers.schemes import need_scheme

ANY_LETTER = "abcdefghijklmnopqrstuvwxyz+"
# What stands for no letters, and for no steps.
NO_LETTERS = "."
NO_STEPS = "none"
# The kinds of the parts behind the first word of each deed; "another" is a folder unlike the one ahead of it.
DEED_PARTS = {
    "allow": ("folder", "who"),
    "bar": ("folder", "who"),
    "clear": ("folder", "who"),
    "join": ("group", "who"),
    "leave": ("group", "who"),
    "login": ("person",),
    "look": ("person", "folder", "path"),
    "move": ("folder", "folder"),
    "open": ("folder",),
    "over": ("folder", "another"),
    "shut": ("folder",),
    "throw": ("folder", "path"),
    "under": ("folder", "another"),
    "write": ("folder", "path"),
}


def show_calendar(calendar):
    """The text of the calendar."""
    pattern, closed, opened = calendar
    words = [pattern]
    for word, spans in (("closed", closed), ("opened", opened)):
        for first, last in spans:
            words.extend([word, str(first), str(last)])
    return " ".join(words)


def show_route(route):
    """The text of the route."""
    return " ".join(route) if route else NO_LETTERS


def show_code(code):
    """The text of the code."""
    return "".join([str(digit) for digit in code])


def show_deed(deed):
    """The text of the deed."""
    return " ".join([deed[0]] + [_show_part(part) for part in deed[1:]])


def show_plan(plan):
    """The text of the plan."""
    return " ; ".join([f"{show_deed(deed)} : {show_route(route)}" for deed, route in plan]) if plan else NO_STEPS


def read_calendar(text):
    """The calendar of the text."""
    words = _words_of(text)
    if not is_pattern(words[0]):
        raise BadText(0)
    closed, at = _read_spans(words, 1, "closed")
    opened, at = _read_spans(words, at, "opened")
    _need_end(words, at)
    return words[0], closed, opened


def read_route(text):
    """The route of the text."""
    words = _words_of(text)
    route, at = _read_letters(words, 0, list(ANY_LETTER))
    _need_end(words, at)
    return route


def read_code(scheme, text):
    """The code of the scheme, right or not, of the text."""
    need_scheme(scheme)
    if not isinstance(text, str):
        raise BadText(0)
    base, _, weights, _ = scheme
    signs = list(text)
    digits = {str(digit): digit for digit in range(base)}
    code = tuple([_pick(signs, at, digits) for at in range(len(weights))])
    _need_end(signs, len(code))
    return code


def read_deed(office, text):
    """The deed of the office of the text."""
    need_office(office)
    words = _words_of(text)
    deed, at = _read_parts(office[0], words, 0)
    _need_end(words, at)
    return deed


def read_plan(office, text):
    """The plan of the office of the text."""
    need_office(office)
    words = _words_of(text)
    if words[0] == NO_STEPS:
        _need_end(words, 1)
        return ()
    step, at = _read_step(office, words, 0)
    steps = [step]
    while at < len(words):
        if len(steps) == MOST_STEPS or words[at] != ";":
            raise BadText(at)
        step, at = _read_step(office, words, at + 1)
        steps.append(step)
    return tuple(steps)


def _show_part(part):
    """The text of a part of a deed: of who or of a number."""
    return f"{part[0]}{part[1]}" if isinstance(part, tuple) else str(part)


def _words_of(text):
    """The list of the words of the text, which are one at least, perhaps of no characters."""
    if not isinstance(text, str):
        raise BadText(0)
    return text.split(" ")


def _pick(words, at, choices):
    """What the word at the place tells, by the dict of the words that may stand there."""
    if at >= len(words) or words[at] not in choices:
        raise BadText(at)
    return choices[words[at]]


def _need_end(words, at):
    if at < len(words):
        raise BadText(at)


def _read_spans(words, at, kind):
    """The tuple of the spans of this kind from the place on, and the place behind them."""
    spans = []
    while len(spans) < MOST_SPANS and words[at:at + 1] == [kind]:
        first = _pick(words, at + 1, {str(day): day for day in range(FIRST_NEAR, LAST_NEAR + 1)})
        ends = [day for day in range(first, LAST_NEAR + 1) if not spans or spans[-1] < (first, day)]
        spans.append((first, _pick(words, at + 2, {str(day): day for day in ends})))
        at += 3
    return tuple(spans), at


def _read_letters(words, at, letters):
    """The route from the place on, of these letters alone, and the place behind it."""
    if words[at:at + 1] == [NO_LETTERS]:
        return (), at + 1
    route = [_pick(words, at, {letter: letter for letter in letters})]
    at += 1
    while at < len(words) and len(route) < MOST_LETTERS and words[at] in letters:
        route.append(words[at])
        at += 1
    return tuple(route), at


def _read_parts(house, words, at):
    """The deed from the place on, and the place behind it."""
    # In a house of one folder there are no copies.
    known = [word for word in DEED_PARTS if size_of(house) > 1 or word not in COPIES]
    parts = [_pick(words, at, {word: word for word in known})]
    for kind in DEED_PARTS[parts[0]]:
        at += 1
        parts.append(_pick(words, at, _choices(house, kind, parts[-1])))
    return tuple(parts), at + 1


def _choices(house, kind, ahead):
    """The dict of the words that may stand for a part of this kind behind the part ahead, and what they tell."""
    if kind == "who":
        return {_show_part(who): who for who in all_whos(house)}
    counts = {"person": house[0], "group": len(GROUPS), "path": len(PATHS)}
    numbers = range(counts.get(kind, size_of(house)))
    return {str(number): number for number in numbers if kind != "another" or number != ahead}


def _read_step(office, words, at):
    """The step from the place on, and the place behind it."""
    deed, at = _read_parts(office[0], words, at)
    _pick(words, at, {":": ":"})
    names = [name for name, _ in office[2]]
    route, at = _read_letters(words, at + 1, names + ["+"])
    return (deed, route), at
