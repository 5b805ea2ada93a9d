"""Starting days: all of them, of any size, are told by finitely many.

Nearer to 0 each starting day is told by itself. Beyond, a day and the one a turn of all patterns further on are moved
alike by any route that does not come to the spans; so the days of one turn on each side tell all that lie there.
"""

from officepapers.calendars import TURN

# From a day beyond this one, on either side, two routes of eight letters each do not come to the spans: a letter moves
# a day over three days at most there.
LAST_SINGLE = 100
# A turn further on.
LAST_TELLING = 112


def telling_days():
    """The list of the days that tell all, those nearest to 0 first, and of two equally near ones the one above 0."""
    return [0] + [day for far in range(1, LAST_TELLING + 1) for day in (far, -far)]


def later_days(day):
    """The list, ascending, of days from the day on that tell all of these, each by one that is not later."""
    return list(range(day, day + TURN)) + list(range(max(day + TURN, -LAST_SINGLE), LAST_TELLING + 1))


def count_told(telling, first, last):
    """How many days from the first to the last one the telling day tells."""
    if -LAST_SINGLE <= telling <= LAST_SINGLE:
        return int(first <= telling <= last)
    if telling > 0:
        first = max(first, LAST_SINGLE + 1)
    else:
        last = min(last, -LAST_SINGLE - 1)
    # No day is counted where the last one is earlier than the first one by then.
    return max(0, (last - telling) // TURN - (first - 1 - telling) // TURN)
