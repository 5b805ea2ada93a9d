"""What the tests of reports share: right and wrong values, and the document's words on them."""

import itertools
import random

from copy_samples import all_contents
from samples import OTHERS, Odd

SIZE = 4
REPORTS = (((0, 1, 2), 1), ((0, 2), 0), ((3,), None), ((0, 3), 0), ((0, 2), 0))

BAD_REPORTS = OTHERS + [
    5,
    "01",
    list(REPORTS),
    REPORTS[0],
    (((0,), 0),) * 13,
    REPORTS + (((0,), 0),) * 8,
    (((), None),),
    (((), 0),),
    (((0, 1), 2),),
    (((0, 1), 4),),
    (((0, 1), -1),),
    (((0, 1), False),),
    (((0, 1), True),),
    (((0, 1), "0"),),
    (((0, 1), (0,)),),
    (((0, 1), Odd()),),
    (((1, 0), 0),),
    (((0, 0), 0),),
    (((0, 1, 1), 0),),
    (((0, 4), 0),),
    (((-1, 0), 0),),
    (((0, True), 0),),
    (((False, 1), 1),),
    (((0, None), 0),),
    ((("0",), None),),
    (([0, 1], 0),),
    (((Odd(),), None),),
    ((0, 0),),
    (("0", None),),
    ((None, None),),
    ([(0, 1), 0],),
    (((0, 1),),),
    (((0, 1), 0, 0),),
    (None,),
    (Odd(),),
    REPORTS + (((0, 1), 3),),
    (((0, 1), 3),) + REPORTS,
    REPORTS + (None,),
]


def some_reports(count, seed, most=6):
    """Tuples of a size, a folder and reports."""
    chance = random.Random(seed)
    told = []
    for _ in range(count):
        size = chance.choice((1, 2, 3, 4, 5))
        whole = [contents for contents in all_contents(size) if contents]
        row = chance.sample(range(size), chance.randint(1, size))
        reports = []
        for _ in range(chance.randint(0, most)):
            contents = chance.choice(whole)
            # Most reports are such that this row explains them.
            first = next((folder for folder in row if folder in contents), None)
            reports.append((contents, first if chance.random() < 0.85 else chance.choice((None,) + contents)))
        told.append((size, row[-1], tuple(reports)))
    return told


def told_folders(folder, reports):
    return {folder} | {told for _, told in reports if told is not None}


def explains(row, report):
    contents, told = report
    return next((folder for folder in row if folder in contents), None) == told


def explained_by_hand(folder, reports):
    """The first right one of all tuples of the folders, as tuples compare."""
    for row in itertools.permutations(sorted(told_folders(folder, reports))):
        if all(explains(row, report) for report in reports):
            return row
    return None


def shows(folder, reports, thing):
    """Whether what is of the right form shows that there is no explanation, by the words of the document."""
    if thing[0] == "lost":
        _, index, other = thing
        return reports[index][1] is None and other in reports[index][0] and other in told_folders(folder, reports)
    indexes = thing[1]
    told = [reports[index][1] for index in indexes]
    if len(indexes) < 2 or None in told or len(set(told)) < len(told):
        return False
    # Each one's folder stands in what was there for the one ahead of it.
    ahead = dict(zip(indexes[1:] + indexes[:1], indexes))
    return all(reports[index][1] in reports[ahead[index]][0] for index in indexes)


def all_shown(size, reports):
    """All there is of the form of what is shown, rings of no folder told twice alone being too many else."""
    lost = [("lost", index, folder) for index in range(len(reports)) for folder in range(size)]
    rings = [
        ("ring", indexes)
        for many in range(min(len(reports), 4) + 1)
        for indexes in itertools.permutations(range(len(reports)), many)
    ]
    return lost + rings
