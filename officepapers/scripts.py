"""Scripts: which deeds can be left out, and what comes of a script that is done again and again."""

from officepapers.checks import PATHS, is_folder, need_folder, need_number, need_path, need_size
from officepapers.copies import is_script, lists_behind, lists_through
from officepapers.errors import BadRow, BadScript

MOST_TIMES = 1_000_000_000_000_000


def same_script(size, script, other):
    """A path and first contents for which the scripts lead to unlike papers; None if their lists are the same."""
    _need_no_writes(size, script)
    _need_no_writes(size, other)
    for path in PATHS:
        for row, another in zip(_rows_of(size, script, path), _rows_of(size, other, path)):
            if row != another:
                return path, _telling_contents(row, another)
    return None


def idle_deeds(size, script):
    """The list, ascending, of the places of the deeds of which each one, left out alone, changes no list."""
    _need_script(size, script)
    along = [lists_through(size, script, path) for path in PATHS]
    return [place for place in range(len(script)) if _is_idle(along, script, place)]


def least_script(size, script):
    """The script that comes of leaving out the last idle deed, again and again, until none is idle."""
    _need_script(size, script)
    place = _last_idle(size, script)
    while place is not None:
        script = script[:place] + script[place + 1:]
        place = _last_idle(size, script)
    return script


def lists_after(size, script, path, times):
    """The tuple of the lists for the path after the script was done so many times."""
    _need_no_writes(size, script)
    need_path(path)
    need_number(times, MOST_TIMES)
    rows = _repeated_rows(_rows_of(size, script, path), times)
    return tuple([tuple([("first", folder) for folder in row]) for row in rows])


def settling(size, script):
    """The least tuple of a number of times and a period from which on the lists for all paths come again with it."""
    _need_no_writes(size, script)
    once = [_rows_of(size, script, path) for path in PATHS]
    now = tuple([_own_rows(size) for _ in PATHS])
    seen = {}
    while now not in seen:
        seen[now] = len(seen)
        now = tuple([_rows_behind(rows, more) for rows, more in zip(now, once)])
    return seen[now], len(seen) - seen[now]


def script_for(size, folder, row):
    """A script of copies into the folder alone, behind which its list is that of the first papers of the row."""
    need_size(size)
    need_folder(size, folder)
    _need_row(size, folder, row)
    at = row.index(folder)
    overs = [("over", other, folder) for other in row[:at][::-1]]
    return tuple(overs + [("under", other, folder) for other in row[at + 1:]])


def _telling_contents(row, another):
    """First contents of which the first one in the row is not the first one in the other row, which is unlike it."""
    at = 0
    while row[at:at + 1] == another[at:at + 1]:
        at += 1
    # No row has a folder twice: those that stand where the rows part stand in neither of them ahead.
    return tuple(sorted(row[at:at + 1] + another[at:at + 1]))


def _last_idle(size, script):
    """The place of the last idle deed, None if none is idle."""
    along = [lists_through(size, script, path) for path in PATHS]
    for place in reversed(range(len(script))):
        if _is_idle(along, script, place):
            return place
    return None


def _is_idle(along, script, place):
    """Whether the deed at the place can be left out; along is, for each path, what lists_through tells."""
    return all([_lists_without(along[path][place], script, path, place) == along[path][-1] for path in PATHS])


def _lists_without(lists, script, path, left_out):
    """The lists behind the script, if they are these right ahead of the one deed that is left out."""
    for place in range(left_out + 1, len(script)):
        lists = lists_behind(lists, script[place], path, place)
    return lists


def _rows_of(size, script, path):
    """The tuple, for each folder, of the folders whose first papers are its list after the script without writes."""
    lists = lists_through(size, script, path)[-1]
    return tuple([tuple([folder for _, folder in sources]) for sources in lists])


def _own_rows(size):
    return tuple([(folder,) for folder in range(size)])


def _rows_behind(rows, more):
    """The rows of one script and another one behind it, each script's rows being those that it makes alone."""
    return tuple([_each_once([folder for other in row for folder in rows[other]]) for row in more])


def _each_once(folders):
    return tuple([folder for at, folder in enumerate(folders) if folder not in folders[:at]])


def _repeated_rows(rows, times):
    """The rows after so many times, which are doubled rather than gone through."""
    done = _own_rows(len(rows))
    while times > 0:
        if times % 2 == 1:
            done = _rows_behind(done, rows)
        rows = _rows_behind(rows, rows)
        times = times // 2
    return done


def _need_script(size, thing):
    # is_script looks at the size, too.
    if not is_script(size, thing):
        raise BadScript("a script is a tuple of at most thirty paper deeds")


def _need_no_writes(size, thing):
    _need_script(size, thing)
    if any([deed[0] == "write" for deed in thing]):
        raise BadScript("the script has to be one without a write")


def _need_row(size, folder, thing):
    if not (
        isinstance(thing, tuple)
        and all([is_folder(size, other) for other in thing])
        and len(set(thing)) == len(thing)
        and folder in thing
    ):
        raise BadRow("a row is a tuple of unlike folders with the folder among them")
