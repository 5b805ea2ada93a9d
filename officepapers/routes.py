"""Routes: how days are moved through the calendars of a book."""

from officepapers.calendars import FIRST_NEAR, LAST_NEAR, TURN, is_calendar, open_from, open_until
from officepapers.checks import is_pair, is_rising, need_day, need_number
from officepapers.errors import BadBook, BadRoute, NoName, TooMany

MOST_NAMES = 4
MOST_LETTERS = 8
MOST_TIMES = 1_000_000_000_000
# A route of eight letters moves a day by less: each letter over the spans and a few days around them at most.
WIDEST_MOVE = 800


def is_book(thing):
    """Whether any object is a book."""
    return (
        isinstance(thing, tuple)
        and len(thing) <= MOST_NAMES
        and all([_is_named_calendar(pair) for pair in thing])
        and is_rising([pair[0] for pair in thing])
    )


def is_route(thing):
    """Whether any object is a route."""
    return (
        isinstance(thing, tuple)
        and len(thing) <= MOST_LETTERS
        and all([_is_letter(letter) for letter in thing])
    )


def moved(book, route, day):
    """The day to which the route moves the day."""
    _need_start(book, route, day)
    return move(calendars_for(book, route), route, day)


def stops(book, route, day):
    """The list of the day and the days after each letter of the route."""
    _need_start(book, route, day)
    calendars = calendars_for(book, route)
    days = [day]
    for letter in route:
        days.append(move(calendars, (letter,), days[-1]))
    return days


def latest_start(book, route, day):
    """The latest day that the route moves to the day or an earlier one."""
    _need_start(book, route, day)
    return move_back(calendars_for(book, route), route, day)


def start_days(book, route, day):
    """The tuple of the first and the last day that the route moves to just the day; None if there is none."""
    _need_start(book, route, day)
    calendars = calendars_for(book, route)
    first = move_back(calendars, route, day - 1) + 1
    last = move_back(calendars, route, day)
    return (first, last) if first <= last else None


def repeated(book, route, day, times):
    """The day after the route has moved it so many times."""
    _need_start(book, route, day)
    need_number(times, MOST_TIMES)
    calendars = calendars_for(book, route)
    there, _ = _move_often(calendars, route, day, times, day + WIDEST_MOVE * times)
    return there


def times_to(book, route, day, goal):
    """How many times, as few as any, the route moves the day to reach the goal or go beyond; None if it never does."""
    _need_start(book, route, day)
    need_day(goal)
    calendars = calendars_for(book, route)
    if day >= goal:
        return 0
    # A route that moves a day at all moves it by one day at least.
    there, times = _move_often(calendars, route, day, goal - day, goal - 1)
    if move(calendars, route, there) == there:
        return None
    return times + 1


def reduced(route):
    """The route in which of equal names side by side one is kept."""
    need_route(route)
    return reduce_letters(route)


def joined(*routes):
    """The reduced route of all the routes, one after the other."""
    for route in routes:
        need_route(route)
    letters = reduce_letters([letter for route in routes for letter in route])
    if len(letters) > MOST_LETTERS:
        raise TooMany(f"the joined route has more than {MOST_LETTERS} letters")
    return letters


def move(calendars, route, day):
    """As moved, for a dict of calendars by their names, letters and a day of any size that are known to be right."""
    for letter in route:
        day = day + 1 if letter == "+" else open_from(calendars[letter], day)
    return day


def move_back(calendars, route, day):
    """As latest_start, for a dict of calendars by their names, letters and a day that are known to be right."""
    for letter in route[::-1]:
        day = day - 1 if letter == "+" else open_until(calendars[letter], day)
    return day


def reduce_letters(letters):
    """The tuple of the letters, as many as there are, in which of equal names side by side one is kept."""
    kept = []
    for letter in letters:
        if letter == "+" or kept[-1:] != [letter]:
            kept.append(letter)
    return tuple(kept)


def is_name(thing):
    """Whether any object is a name."""
    return isinstance(thing, str) and len(thing) == 1 and "a" <= thing <= "z"


def need_book(thing):
    if not is_book(thing):
        raise BadBook("a book is a tuple of names with their calendars, ascending by names")


def need_route(thing):
    if not is_route(thing):
        raise BadRoute(f"a route is a tuple of at most {MOST_LETTERS} letters")


def calendars_for(book, route):
    """The calendars of the book by their names, if it has all names of the route."""
    calendars = dict(book)
    for letter in route:
        if letter != "+" and letter not in calendars:
            raise NoName(letter)
    return calendars


def _need_start(book, route, day):
    need_book(book)
    need_route(route)
    need_day(day)


def _is_letter(thing):
    return is_name(thing) or (isinstance(thing, str) and thing == "+")


def _is_named_calendar(thing):
    return is_pair(thing) and is_name(thing[0]) and is_calendar(thing[1])


def _move_often(calendars, route, day, times, bound):
    """Move the day by the route as often as leaves it at the bound or before it, no more than so many times.

    The result is a tuple of the day and how often it was moved; of a day that stands still the number means nothing.
    """
    leaps = _far_leaps(calendars, route, times)
    day, done = _leap(leaps, day, times, min(bound, FIRST_NEAR - 1))
    while done < times and day <= LAST_NEAR:
        there = move(calendars, route, day)
        if there == day or there > bound:
            return day, done
        day = there
        done += 1
    day, more = _leap(leaps, day, times - done, bound)
    return day, done + more


def _far_leaps(calendars, route, times):
    """Tuples of a count, 1, 2, 4 and so on, and by how many days so many moves away from the spans move a day.

    These numbers of days stand in a list by what the moved day leaves by TURN, with which all patterns come again.
    """
    plain = {name: (calendars[name][0], (), ()) for name in calendars}
    count = 1
    steps = [move(plain, route, day) - day for day in range(TURN)]
    leaps = [(count, steps)]
    while count < times:
        count = 2 * count
        steps = [step + steps[(day + step) % TURN] for day, step in enumerate(steps)]
        leaps.append((count, steps))
    return leaps


def _leap(leaps, day, times, bound):
    """As _move_often, for days between which and the bound there are no spans."""
    done = 0
    for count, steps in leaps[::-1]:
        there = day + steps[day % TURN]
        if done + count <= times and there <= bound:
            day = there
            done += count
    return day, done
