"""Spelling: which routes are never later than other ones, and days that show where one is."""

from officepapers.checks import is_pair, is_rising, is_whole
from officepapers.routes import is_name, need_route, reduce_letters

# What is shown stays within these.
FAR_SHOWN = 200
MOST_CLOSED = 100


def never_later(route, other):
    """Whether the route moves no day to a later one than the other route does, whatever days are open."""
    _need_routes(route, other)
    return spell(reduce_letters(route), other) is not None


def spelled_at(route, other):
    """The least tuple of places of the letters of the reduced route in the other one; None if there is none."""
    _need_routes(route, other)
    return spell(reduce_letters(route), other)


def later_shown(route, other):
    """The closed days of the names, and a day that the route moves to a later one than the other route does.

    None if the route is never later.
    """
    _need_routes(route, other)
    letters = reduce_letters(route)
    if spell(letters, other) is not None:
        return None
    closed = {name: [] for name in _names_of(route + other)}
    day = 0
    for letter in letters:
        # The other route comes from one of these days to the next one by the same letter alone: by a name at once,
        # if all days between are closed, but not by all its + together, if there are more days than it has letters.
        goal = day + 1 if letter == "+" else day + len(other) + 1
        if letter != "+":
            closed[letter].extend(list(range(day, goal)))
        day = goal
    return tuple([(name, tuple(closed[name])) for name in closed]), 0


def later_holds(route, other, thing):
    """Whether any object is a tuple of closed days and a day as later_shown returns them, perhaps of further names."""
    _need_routes(route, other)
    if not _is_shown(thing):
        return False
    closed, day = dict(thing[0]), thing[1]
    if not all([name in closed for name in _names_of(route + other)]):
        return False
    return _move_past(closed, route, day) > _move_past(closed, other, day)


def spell(letters, other):
    """The least tuple of ascending places of the letters in the other ones; None if there is none."""
    places = []
    for at, letter in enumerate(other):
        if len(places) < len(letters) and letters[len(places)] == letter:
            places.append(at)
    return tuple(places) if len(places) == len(letters) else None


def _need_routes(route, other):
    need_route(route)
    need_route(other)


def _names_of(letters):
    """The list, ascending, of the names among the letters, each once."""
    return sorted({letter for letter in letters if letter != "+"})


def _is_shown(thing):
    return (
        is_pair(thing)
        and isinstance(thing[0], tuple)
        and all([_is_closed(pair) for pair in thing[0]])
        and is_rising([pair[0] for pair in thing[0]])
        and _is_near(thing[1])
    )


def _is_closed(thing):
    return (
        is_pair(thing)
        and is_name(thing[0])
        and isinstance(thing[1], tuple)
        and len(thing[1]) <= MOST_CLOSED
        and all([_is_near(day) for day in thing[1]])
        and is_rising(thing[1])
    )


def _is_near(thing):
    return is_whole(thing, -FAR_SHOWN, FAR_SHOWN)


def _move_past(closed, letters, day):
    """The day to which the letters move the day if each name is open on all days but its closed ones."""
    for letter in letters:
        if letter == "+":
            day += 1
        else:
            while day in closed[letter]:
                day += 1
    return day
