"""What the tests of sight, keeping and labels share: plans with many papers, and what is seen in them by hand."""

import random

from copy_samples import BAD_CONTENTS, all_contents, all_deeds
from house_samples import MODES, all_right_deeds, house_of, some_state
from plan_samples import (
    all_looks,
    lists_after,
    order_by_hand,
    papers_after,
    sees_after,
    some_routes,
)
from samples import OTHERS, Odd, some_calendar

# Steps 2 and 5 write at the path 3, step 4 at another one.
PAPER_PLAN = (
    (("over", 0, 1), ("+", "a")),
    (("look", 2, 1, 3), ("k",)),
    (("write", 0, 3), ("a",)),
    (("look", 1, 0, 3), ("a", "+")),
    (("write", 1, 0), ()),
    (("write", 1, 3), ("+", "+", "k")),
    (("allow", 0, ("p", 2)), ("k", "+")),
)
PAPER_SOURCE = ("written", 2)
KEEP = ((2, ("+", "a")), (4, ("+", "k")), (5, ()))
NEAR = sorted(range(-150, 151), key=lambda day: (abs(day), -day))

# What is none of PAPER_PLAN for the path 3.
BAD_PLAN_SOURCES = OTHERS + [
    5,
    (),
    "first",
    ("first",),
    ("first", 0, 0),
    ["first", 0],
    ("first", 4),
    ("first", -1),
    ("first", True),
    ("first", None),
    ("first", (0,)),
    ("First", 0),
    ("", 0),
    (0, 0),
    (b"first", 0),
    ("written",),
    ("written", 2, 2),
    ["written", 2],
    # Steps that are no writes, a write at another path, and steps that there are not.
    ("written", 0),
    ("written", 1),
    ("written", 3),
    ("written", 4),
    ("written", 6),
    ("written", 7),
    ("written", -1),
    ("written", -5),
    ("written", True),
    ("written", "2"),
    ("write", 2),
    ("look", 1),
    (Odd(), 0),
    ("first", Odd()),
    ("written", Odd()),
]

# What is none of four folders.
BAD_FOUR_CONTENTS = [thing for thing in BAD_CONTENTS if repr(thing) not in ("(3,)", "(0, 3)")] + [(4,), (0, 4), [3]]

BAD_LOOK_NUMBERS = OTHERS + [(), (1,), "1", -1, 0, 2, 4, 5, 6, 7, 10 ** 59]
BAD_WRITE_NUMBERS = OTHERS + [(), (2,), "2", -1, 0, 1, 3, 6, 7, 10 ** 59]

BAD_KEEPS = (
    OTHERS
    + [
        5,
        list(KEEP),
        KEEP[0],
        KEEP[::-1],
        (KEEP[1], KEEP[0]),
        (KEEP[0], KEEP[0]),
        (KEEP[0], (2, ("+", "k"))),
        (KEEP[0], KEEP[2], KEEP[1]),
        dict(KEEP),
        ((2,),),
        ((2, (), ()),),
        ([2, ()],),
        (((), 2),),
        (2,),
        (None,),
        (Odd(),),
        (Odd(), Odd()),
        ((Odd(), ()),),
    ]
    + [((number, ()),) for number in BAD_WRITE_NUMBERS]
    + [((2, ()), (number, ())) for number in BAD_WRITE_NUMBERS if number not in (6, 7, 10 ** 59)]
    + [((2, route),) for route in [None, [], "a", ("+",) * 9, ("b",), ("a", "z"), ("l", "+"), ("",), ("ab",), (1,)]]
    + [((2, route),) for route in [Odd(), (Odd(),), ["a"], ("a", None), {"a": "a"}, ("A",), (("a",),)]]
)


def some_paper_offices(count, seed, most=8, sizes=(2, 3), looks=2):
    """Tuples of an office and a plan with many papers at the paths 0 and 1, and some deeds of rights and looks."""
    chance = random.Random(seed)
    told = []
    for _ in range(count):
        people, size = chance.randint(1, 3), chance.choice(sizes)
        names = sorted(chance.sample("abcxyz", chance.randint(0, 3)))
        office = (
            some_open_house(chance, people, size),
            chance.choice(MODES),
            tuple((name, some_calendar(chance)) for name in names),
        )
        copies = [deed for deed in all_deeds(size) if deed[0] in ("over", "under")]
        writes = [deed for deed in all_deeds(size) if deed[0] == "write" and deed[2] < 2]
        throws = [deed for deed in all_deeds(size) if deed[0] == "throw" and deed[2] < 2]
        entries = [deed for deed in all_right_deeds(people, size) if deed[0] in ("allow", "bar", "clear")]
        seen = [look for look in all_looks(people, size) if look[3] < 2]
        kinds = [copies] * 4 + [writes, writes, throws, entries, all_right_deeds(people, size)] + [seen] * looks
        steps = chance.choice([0, 1, *range(2, most + 1), most, most])
        deeds = [chance.choice(chance.choice(kinds)) for _ in range(steps)]
        told.append((office, tuple(zip(deeds, some_routes(chance, names, steps)))))
    return told


def some_open_house(chance, people, size):
    """A house in which most persons see some folders and none sees all."""
    house = house_of(some_state(chance, people, size, 0))
    entries = {
        (chance.randrange(size), ("p", person)): chance.choice(["allow", "allow", "allow", "bar"])
        for person in range(people) for _ in range(2)
    }
    shut = tuple(chance.random() < 0.6 for _ in range(size))
    told = tuple(sorted((folder, who, kind) for (folder, who), kind in entries.items()))
    return (people, house[1], shut, told, house[4])


def some_keep(chance, office, plan):
    """A keep of some of the plan's writes."""
    names = [name for name, _ in office[2]]
    writes = [number for number, (deed, _) in enumerate(plan) if deed[0] == "write"]
    kept = [number for number in writes if chance.random() < 0.8]
    return tuple(zip(kept, some_routes(chance, names, len(kept))))


def plan_sources(office, plan, path):
    """All sources there may be for the path."""
    written = [("written", at) for at, (deed, _) in enumerate(plan) if deed[0] == "write" and deed[2] == path]
    return [("first", folder) for folder in range(len(office[0][2]))] + written


def sights_by_hand(office, plan, numbers, person, path):
    """All tuples of a source, a moment and a folder, and the list of those that are sure, for these steps."""
    found, sure = [], []
    for moment in range(len(numbers) + 1):
        lists = lists_after(office, plan, numbers[:moment], path)
        for folder, sources in enumerate(lists):
            if sees_after(office, plan, numbers[:moment], person, folder):
                found += [(source, moment, folder) for source in sources]
                sure += [(source, moment, folder) for source in sources[:1]]
    return sorted(found), sorted(sure)


def sees_by_steps(office, plan, numbers, person, path, source):
    return source in [one for one, _, _ in sights_by_hand(office, plan, numbers, person, path)[0]]


def shown_by_hand(office, plan, numbers, person, path, contents):
    """What the person is shown at each moment in each folder that is seen then."""
    shown = []
    for moment in range(len(numbers) + 1):
        papers = papers_after(office, plan, numbers[:moment], contents)
        for folder in range(len(office[0][2])):
            if sees_after(office, plan, numbers[:moment], person, folder):
                shown.append((moment, folder, papers.get((folder, path))))
    return shown


def stands_surely(office, plan, numbers, path, source):
    """Whether, behind these steps, the source stands in some folder whatever the first contents are."""
    size = len(office[0][2])
    alone = [papers_after(office, plan, numbers, contents) for contents in all_contents(size)]
    return any(all(papers.get((folder, path)) == source for papers in alone) for folder in range(size))


def orders_near(office, plan):
    """The order of each day near the spans and of whole turns beyond, the days nearest to 0 first."""
    return {day: order_by_hand(office, plan, day) for day in NEAR}


def without(numbers, *cut):
    return tuple(number for number in numbers if number not in cut)


# A small office to try single plans in: folders 1 and 2 lie in folder 0, all of which person 0 sees.
def small_office(entries=((0, ("p", 0), "allow"),), people=2, size=3, book=()):
    return ((people, (0,) * (size - 1), (False,) * size, entries, ()), ("bar", "keeps", "now", True), book)


def day_by_day(*deeds):
    """A plan of the deeds, each a day behind the one ahead of it."""
    return tuple((deed, ("+",) * at) for at, deed in enumerate(deeds))
