"""Calendars: which days are open."""

from officepapers.checks import is_pair, is_rising, is_whole, need_day, need_number
from officepapers.errors import BadCalendar

# No span goes beyond these days: below and above them the pattern alone decides.
FIRST_NEAR = -30
LAST_NEAR = 30
MOST_SPANS = 2
# The common period of all patterns: each length from 1 to 4 divides it.
TURN = 12
FAR_NUMBER = 1_000_000_000_000_000


def is_calendar(thing):
    """Whether any object is a calendar."""
    return (
        isinstance(thing, tuple)
        and len(thing) == 3
        and is_pattern(thing[0])
        and _is_spans(thing[1])
        and _is_spans(thing[2])
    )


def is_open(calendar, day):
    """Whether the day is open by the calendar."""
    need_calendar(calendar)
    need_day(day)
    return open_on(calendar, day)


def next_open(calendar, day):
    """The first open day that is not earlier than the day."""
    need_calendar(calendar)
    need_day(day)
    return open_from(calendar, day)


def last_open(calendar, day):
    """The last open day that is not later than the day."""
    need_calendar(calendar)
    need_day(day)
    return open_until(calendar, day)


def nth_open(calendar, day, number):
    """The open day with this number, from 0, among those that are not earlier than the day."""
    need_calendar(calendar)
    need_day(day)
    need_number(number, FAR_NUMBER)
    return _ranked_day(calendar, _rank(calendar, day) + number)


def count_open(calendar, first, last):
    """How many days from the first to the last one, both counted, are open."""
    need_calendar(calendar)
    need_day(first)
    need_day(last)
    if last < first:
        return 0
    return _rank(calendar, last + 1) - _rank(calendar, first)


def unlike_day(calendar, other):
    """The day nearest to 0, above it before below, that is open by just one of the calendars; None if none is."""
    need_calendar(calendar)
    need_calendar(other)
    # On each side one whole turn of both patterns lies beyond the spans: what is alike there is alike for ever.
    for far in range(LAST_NEAR + TURN + 1):
        for day in (far, -far):
            if open_on(calendar, day) != open_on(other, day):
                return day
    return None


def open_on(calendar, day):
    """As is_open, for a calendar and a day of any size that are known to be right."""
    pattern, closed, opened = calendar
    if FIRST_NEAR <= day <= LAST_NEAR:
        if _in_spans(closed, day):
            return False
        if _in_spans(opened, day):
            return True
    return pattern[day % len(pattern)] == "o"


def open_from(calendar, day):
    """As next_open, for a calendar and a day of any size that are known to be right."""
    while not open_on(calendar, day):
        day += 1
    return day


def open_until(calendar, day):
    """As last_open, for a calendar and a day of any size that are known to be right."""
    while not open_on(calendar, day):
        day -= 1
    return day


def is_pattern(thing):
    """Whether any object is the pattern of a calendar."""
    return (
        isinstance(thing, str)
        and len(thing) <= 4
        and "o" in thing
        and thing.count("o") + thing.count("-") == len(thing)
    )


def need_calendar(thing):
    if not is_calendar(thing):
        raise BadCalendar("a calendar is a tuple of a pattern, closed spans and opened spans")


def _is_spans(thing):
    return (
        isinstance(thing, tuple)
        and len(thing) <= MOST_SPANS
        and all([_is_span(span) for span in thing])
        and is_rising(thing)
    )


def _is_span(thing):
    return (
        is_pair(thing)
        and is_whole(thing[0], FIRST_NEAR, LAST_NEAR)
        and is_whole(thing[1], thing[0], LAST_NEAR)
    )


def _in_spans(spans, day):
    for first, last in spans:
        if first <= day <= last:
            return True
    return False


def _plain_rank(pattern, day):
    """How many days from 0 to before the day the pattern alone opens; below 0 as many, with a minus."""
    turns, rest = divmod(day, len(pattern))
    return turns * pattern.count("o") + pattern[:rest].count("o")


def _plain_day(pattern, rank):
    """The day of this rank among those that the pattern alone opens."""
    places = [at for at in range(len(pattern)) if pattern[at] == "o"]
    turns, rest = divmod(rank, len(places))
    return turns * len(pattern) + places[rest]


def _rank(calendar, day):
    """The rank of the first open day from the day on: open days have neighbouring ranks, as the pattern far below."""
    pattern = calendar[0]
    if day <= FIRST_NEAR:
        return _plain_rank(pattern, day)
    near = [at for at in range(FIRST_NEAR, min(day, LAST_NEAR + 1)) if open_on(calendar, at)]
    rank = _plain_rank(pattern, FIRST_NEAR) + len(near)
    if day <= LAST_NEAR:
        return rank
    return rank + _plain_rank(pattern, day) - _plain_rank(pattern, LAST_NEAR + 1)


def _ranked_day(calendar, rank):
    """The open day of this rank."""
    pattern = calendar[0]
    below = _plain_rank(pattern, FIRST_NEAR)
    if rank < below:
        return _plain_day(pattern, rank)
    near = [at for at in range(FIRST_NEAR, LAST_NEAR + 1) if open_on(calendar, at)]
    if rank < below + len(near):
        return near[rank - below]
    return _plain_day(pattern, rank - below - len(near) + _plain_rank(pattern, LAST_NEAR + 1))
