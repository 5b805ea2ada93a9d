"""What the parts of the package have in common when they look at arguments."""

from officepapers.errors import BadContents, BadDay, BadFolder, BadNumber, BadPath, BadSize

FAR_DAY = 1_000_000_000_000_000
MOST_FOLDERS = 6
PATHS = (0, 1, 2, 3)
LAST_PATH = 3


def is_whole(thing, low, high):
    """Whether any object is an integer, True and False being none, from low to high."""
    return isinstance(thing, int) and not isinstance(thing, bool) and low <= thing <= high


def is_word(thing, words):
    """Whether any object is one of the words, which are a tuple of texts."""
    return isinstance(thing, str) and thing in words


def is_pair(thing):
    return isinstance(thing, tuple) and len(thing) == 2


def is_rising(things):
    """Whether the things ascend, without duplicates."""
    return all([things[at] < things[at + 1] for at in range(len(things) - 1)])


def need_day(thing):
    if not is_whole(thing, -FAR_DAY, FAR_DAY):
        raise BadDay("a day is an integer from -10 ** 15 to 10 ** 15")


def need_number(thing, most):
    if not is_whole(thing, 0, most):
        raise BadNumber(f"the number is an integer from 0 to {most}")


def is_folder(size, thing):
    return is_whole(thing, 0, size - 1)


def is_path(thing):
    return is_whole(thing, 0, LAST_PATH)


def is_contents(size, thing):
    return isinstance(thing, tuple) and all([is_folder(size, folder) for folder in thing]) and is_rising(thing)


def need_size(thing):
    if not is_whole(thing, 1, MOST_FOLDERS):
        raise BadSize(f"a size is an integer from 1 to {MOST_FOLDERS}")


def need_path(thing):
    if not is_path(thing):
        raise BadPath(f"a path is an integer from 0 to {LAST_PATH}")


def need_folder(size, thing):
    if not is_folder(size, thing):
        raise BadFolder(f"a folder is an integer from 0 to {size - 1}")


def need_contents(size, thing):
    if not is_contents(size, thing):
        raise BadContents("first contents are a tuple of folders, ascending, without duplicates")
