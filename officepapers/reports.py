"""Reports: whether what stood in a folder for several first contents can come of copies alone."""

from officepapers.checks import is_contents, is_folder, is_pair, is_whole, is_word, need_folder, need_size
from officepapers.errors import BadReports

MOST_REPORTS = 12


def explained(size, folder, reports):
    """The least tuple of the folder and all told ones that explains all reports; None if there is none."""
    _need_told(size, folder, reports)
    row, left = _lined_up(folder, reports)
    return None if left or _lost(folder, reports) is not None else tuple(row)


def against(size, folder, reports):
    """What shows that nothing explains all reports, a report of none or a ring of reports; None if something does."""
    _need_told(size, folder, reports)
    lost = _lost(folder, reports)
    if lost is not None:
        return lost
    _, left = _lined_up(folder, reports)
    return ("ring", _ring(reports, left)) if left else None


def against_holds(size, folder, reports, thing):
    """Whether any object shows, as what against returns does, that nothing explains all reports."""
    _need_told(size, folder, reports)
    if not isinstance(thing, tuple):
        return False
    if len(thing) == 3 and is_word(thing[0], ("lost",)):
        return _is_lost(size, folder, reports, thing[1], thing[2])
    return len(thing) == 2 and is_word(thing[0], ("ring",)) and _is_ring(reports, thing[1])


def _listed(folder, reports):
    """The list, ascending, of the folder and all folders that are told, each once."""
    return sorted(set([folder] + [told for _, told in reports if told is not None]))


def _lined_up(folder, reports):
    """The least row that explains the reports of told folders, as far as it goes, and the list of those left over."""
    row = []
    left = _listed(folder, reports)
    free = left
    while free:
        free = [other for other in left if not _those_ahead(reports, left, other)]
        row.extend(free[:1])
        left = [other for other in left if other not in row]
    return row, left


def _those_ahead(reports, left, folder):
    """The list of the indexes of the reports by which another one of the left folders stands ahead of the folder."""
    return [
        index for index, (contents, told) in enumerate(reports)
        if told != folder and told in left and folder in contents
    ]


def _lost(folder, reports):
    """The first report of none, and the least folder against it, as against tells them; None if there is none."""
    for index, (contents, told) in enumerate(reports):
        found = [other for other in _listed(folder, reports) if other in contents]
        if told is None and found:
            return "lost", index, found[0]
    return None


def _ring(reports, left):
    """The indexes of a ring of reports, where each of the left folders has another one of them ahead."""
    here = left[0]
    passed = []
    indexes = []
    while here not in passed:
        passed.append(here)
        indexes.append(_those_ahead(reports, left, here)[0])
        here = reports[indexes[-1]][1]
    return tuple(indexes[passed.index(here):][::-1])


def _is_lost(size, folder, reports, index, other):
    return (
        is_whole(index, 0, len(reports) - 1)
        and is_folder(size, other)
        and other in _listed(folder, reports)
        and reports[index][1] is None
        and other in reports[index][0]
    )


def _is_ring(reports, indexes):
    if not (isinstance(indexes, tuple) and len(indexes) >= 2):
        return False
    if not all([is_whole(index, 0, len(reports) - 1) for index in indexes]):
        return False
    told = [reports[index][1] for index in indexes]
    # The index ahead of the first one is the last one.
    return (
        None not in told
        and len(set(told)) == len(told)
        and all([told[at] in reports[indexes[at - 1]][0] for at in range(len(told))])
    )


def _need_told(size, folder, reports):
    need_size(size)
    need_folder(size, folder)
    if not (
        isinstance(reports, tuple)
        and len(reports) <= MOST_REPORTS
        and all([_is_report(size, report) for report in reports])
    ):
        raise BadReports(f"reports are a tuple of at most {MOST_REPORTS} tuples of first contents and what is told")


def _is_report(size, thing):
    if not (is_pair(thing) and is_contents(size, thing[0]) and thing[0]):
        return False
    contents, told = thing
    return told is None or (is_folder(size, told) and told in contents)
