"""What the tests of copies share: right and wrong values, and the deeds of scripts done with papers."""

import itertools
import random

from samples import OTHERS, Odd

BAD_SIZES = OTHERS + [(), (3,), "3", 0, 7, -1, 10 ** 59]

BAD_PATHS = OTHERS + [(), (1,), "1", -1, 4, 10 ** 59]

SIZE = 3
SCRIPT = (("over", 0, 1), ("write", 1, 2), ("under", 2, 1), ("write", 0, 3), ("throw", 2, 2), ("over", 1, 2))

BAD_FOLDERS = OTHERS + [(), (1,), "1", -1, 3, 10 ** 59]

BAD_SOURCES = OTHERS + [
    5,
    (),
    "first",
    ("first",),
    ("first", 0, 0),
    ["first", 0],
    ("first", 3),
    ("first", -1),
    ("first", True),
    ("first", None),
    ("first", (0,)),
    ("First", 0),
    ("", 0),
    (0, 0),
    (None, 1),
    (b"first", 0),
    ("written",),
    ("written", 1, 2),
    ["written", 1],
    ("written", 0),
    ("written", 2),
    # A write at another path, and deeds that are not there.
    ("written", 3),
    ("written", 6),
    ("written", -5),
    ("written", -1),
    ("written", True),
    ("written", "1"),
    ("write", 1),
    ("throw", 4),
    (Odd(), 0),
    (Odd(), 1),
    ("first", Odd()),
    ("written", Odd()),
]

BAD_CONTENTS = OTHERS + [
    5,
    0,
    "0",
    [0],
    (3,),
    (-1,),
    (0, 3),
    (1, 0),
    (0, 0),
    (0, 1, 1),
    (0, 2, 1),
    (0, True),
    (False,),
    (None,),
    ("0",),
    ((0,),),
    (Odd(),),
]

# What is none with the folder 2.
BAD_ROWS = OTHERS + [
    5,
    2,
    "2",
    (),
    [2],
    [1, 2, 0],
    (0,),
    (0, 1),
    (2, 2),
    (0, 1, 2, 0),
    (1, 2, 1),
    (2, 3),
    (2, -1),
    (2, True),
    (False, 2),
    (2, None),
    (2, "0"),
    ("2",),
    ((2,),),
    (2, (0,)),
    (Odd(),),
    (2, Odd()),
    {2: 2},
]

BAD_DEEDS = [
    None,
    "over",
    5,
    (),
    ("over",),
    ("over", 0),
    ("over", 0, 1, 2),
    ["over", 0, 1],
    ("over", 0, 0),
    ("over", 0, 3),
    ("over", 3, 0),
    ("over", -1, 0),
    ("over", 0, -1),
    ("over", 0, True),
    ("over", False, 1),
    ("over", 0, None),
    ("over", "0", 1),
    ("under", 1, 1),
    ("under", 0, 3),
    ("under", 3, 0),
    ("under", -1, 0),
    ("under", 0, True),
    ("under", None, 1),
    ("write", 3, 0),
    ("write", -1, 0),
    ("write", 0, 4),
    ("write", 0, -1),
    ("write", 0, True),
    ("write", True, 0),
    ("write", 0),
    ("write", 0, 0, 0),
    ("write", 0, None),
    ("throw", 3, 0),
    ("throw", 0, 4),
    ("throw", 0, -1),
    ("throw", False, 0),
    ("throw", 0, False),
    ("throw", (), 0),
    ("Over", 0, 1),
    ("copy", 0, 1),
    ("", 0, 1),
    (0, 0, 1),
    (None, 0, 1),
    (b"over", 0, 1),
    (("over",), 0, 1),
    (["over"], 0, 1),
    (Odd(), 0, 1),
    ("over", Odd(), 1),
    ("over", 0, Odd()),
    ("write", Odd(), 1),
    ("throw", 1, Odd()),
    ("look", 0, 1),
    ("shut", 0),
    Odd(),
]

BAD_SCRIPTS = (
    OTHERS
    + [5, "over", ["over", 0, 1], [("over", 0, 1)], ("over", 0, 1), (("write", 0, 0),) * 31, SCRIPT * 6]
    + [(deed,) for deed in BAD_DEEDS]
    + [SCRIPT + (deed,) for deed in BAD_DEEDS]
    + [(deed,) + SCRIPT for deed in BAD_DEEDS]
)


def all_deeds(size):
    """All paper deeds for so many folders."""
    folders = range(size)
    copies = [(word, source, target) for word in ("over", "under") for source in folders for target in folders]
    changes = [(word, folder, path) for word in ("write", "throw") for folder in folders for path in range(4)]
    return [deed for deed in copies if deed[1] != deed[2]] + changes


def all_contents(size):
    return [folders for many in range(size + 1) for folders in itertools.combinations(range(size), many)]


def firsts(*folders):
    return tuple(("first", folder) for folder in folders)


def sources_of(size, script, path):
    """All sources there may be for the path."""
    written = [("written", at) for at, deed in enumerate(script) if deed[0] == "write" and deed[2] == path]
    return list(firsts(*range(size))) + written


def papers_along(size, script, contents):
    """The papers, by folder and path, at first and after each deed; each path has the same first contents.

    A deed in the place of which None stands is left out.
    """
    papers = {(folder, path): ("first", folder) for folder in contents for path in range(4)}
    along = [dict(papers)]
    for place, deed in enumerate(script):
        if deed is None:
            along.append(dict(papers))
            continue
        word, first, second = deed
        if word in ("over", "under"):
            for path in range(4):
                if (first, path) in papers and (word == "over" or (second, path) not in papers):
                    papers[second, path] = papers[first, path]
        else:
            papers.pop((first, second), None)
            if word == "write":
                papers[first, second] = ("written", place)
        along.append(dict(papers))
    return along


def papers_by_hand(size, script, path, contents):
    papers = papers_along(size, script, contents)[-1]
    return tuple(papers.get((folder, path)) for folder in range(size))


def lists_by_hand(size, script, path):
    """The lists that tell, for all first contents, what stands in the folders."""
    found = {contents: papers_by_hand(size, script, path, contents) for contents in all_contents(size)}
    lists = []
    for folder in range(size):
        seen = sorted({papers[folder] for papers in found.values()} - {None})
        # A source stands ahead of another one if it stands where both are there; nothing is behind a written one.
        ahead = {
            source: sum(
                found[contents_with(source, other)][folder] == other for other in seen if other != source
            )
            for source in seen
        }
        lists.append(tuple(sorted(seen, key=ahead.get)))
    return tuple(lists)


def contents_with(*sources):
    return tuple(sorted(number for word, number in sources if word == "first"))


def is_trail_by_hand(size, script, path, folder, source, contents, places):
    """Whether the places are a trail, by the words of the document."""
    along = papers_along(size, script, contents)
    spans = []
    if source[0] == "first":
        here, since = source[1], 0
    else:
        here, since = script[source[1]][1], source[1] + 1
    for place in places:
        word, copied, target = script[place]
        if word not in ("over", "under") or copied != here or place < since:
            return False
        if word == "under" and (target, path) in along[place]:
            return False
        spans.append((here, since, place))
        here, since = target, place + 1
    spans.append((here, since, len(script)))
    for at, first, last in spans:
        for moment in range(first, last + 1):
            if along[moment].get((at, path)) != source:
                return False
    return here == folder


def without_writes(script):
    return tuple(deed for deed in script if deed[0] != "write")


def some_script(chance, size, length, path=None):
    """A script by chance; with a path most writings and throwings are there."""
    deeds = all_deeds(size)
    if path is not None:
        changes = [deed for deed in deeds if deed[0] in ("write", "throw") and deed[2] == path]
        deeds = [deed for deed in deeds if deed[0] in ("over", "under")] * 2 + changes
    return tuple(chance.choice(deeds) for _ in range(length))


def some_scripts(count, seed, most=8, sizes=(1, 2, 3, 4, 5, 6)):
    """Tuples of a size, a script and a path."""
    chance = random.Random(seed)
    scripts = []
    for _ in range(count):
        size, path = chance.choice(sizes), chance.randrange(4)
        scripts.append((size, some_script(chance, size, chance.randint(0, most), path), path))
    return scripts
