"""Labels: papers that are written get codes with check digits, and are found by codes that are typed."""

from officepapers.checks import need_contents
from officepapers.copies import papers_of
from officepapers.errors import TooMany
from officepapers.houses import size_of
from officepapers.moments import need_moment, worlds_along
from officepapers.plans import need_plan, order_for, writes_of
from officepapers.schemes import need_code, need_scheme
from officepapers.slips import MOST_CODES, read_typed, safe_register


def labels(scheme, office, plan):
    """The tuple of the tuples of the number of each writing and its code."""
    need_scheme(scheme)
    need_plan(office, plan)
    return _label_writes(scheme, writes_of(plan))


def found_typed(scheme, office, plan, day, moment, contents, code):
    """The list, ascending, of the numbers of papers that the code may tell, and the folders in which they stand."""
    need_scheme(scheme)
    need_moment(office, plan, day, moment)
    need_contents(size_of(office[0]), contents)
    need_code(scheme, code)
    numbers = typed_writes(scheme, writes_of(plan), code)
    _, lists = worlds_along(office, plan, order_for(office, plan, day)[:moment])[-1]
    papers = [papers_of(rows, contents) for rows in lists]
    return [
        (number, folder)
        for number in numbers for folder, source in enumerate(papers[plan[number][0][2]])
        if source == ("written", number)
    ]


def typed_writes(scheme, numbers, code):
    """The list, ascending, of the numbers whose label is the code or one slip from it."""
    labelled = _label_writes(scheme, numbers)
    read = read_typed(scheme, tuple([label for _, label in labelled]), code)
    return [number for number, label in labelled if label in read]


def _label_writes(scheme, numbers):
    """The tuple of the tuples of each number and its code, numbers being a list, ascending, of those of writings."""
    if len(numbers) > MOST_CODES:
        raise TooMany(f"no more than {MOST_CODES} papers are labelled")
    codes = safe_register(scheme, len(numbers))
    if codes is None:
        raise TooMany("the scheme has not so many codes that are safe together")
    return tuple(zip(numbers, codes))
