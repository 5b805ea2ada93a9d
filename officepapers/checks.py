"""What the parts of the package have in common when they look at arguments."""

from officepapers.errors import BadDay, BadNumber

FAR_DAY = 1_000_000_000_000_000


def is_whole(thing, low, high):
    """Whether any object is an integer, True and False being none, from low to high."""
    return isinstance(thing, int) and not isinstance(thing, bool) and low <= thing <= high


def is_rising(things):
    """Whether the things ascend, without duplicates."""
    return all([things[at] < things[at + 1] for at in range(len(things) - 1)])


def need_day(thing):
    if not is_whole(thing, -FAR_DAY, FAR_DAY):
        raise BadDay("a day is an integer from -10 ** 15 to 10 ** 15")


def need_number(thing, most):
    if not is_whole(thing, 0, most):
        raise BadNumber(f"the number is an integer from 0 to {most}")
