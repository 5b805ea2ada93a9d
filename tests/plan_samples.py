"""What the tests of plans and moments share: right and wrong values, and plans done step by step by hand."""

import random

from copy_samples import BAD_DEEDS, all_contents, all_deeds, papers_along
from house_samples import (
    BAD_HOUSES,
    BAD_MODES,
    BAD_RIGHT_DEEDS,
    HOUSE,
    MODE,
    MODES,
    after_by_hand,
    all_right_deeds,
    groups_by_hand,
    house_of,
    sees_by_hand,
    some_state,
    with_part,
)
from samples import BAD_BOOKS, BAD_ROUTES, OTHERS, Odd, move_by_hand, some_calendar

BOOK = (("a", ("oo-", ((-3, 4),), ())), ("k", ("-o--", (), ((5, 6),))))
OFFICE = (HOUSE, MODE, BOOK)
PLAN = (
    (("over", 0, 1), ("+", "a")),
    (("look", 2, 1, 3), ("k",)),
    (("write", 0, 3), ("a",)),
    (("join", 0, ("p", 0)), ("a", "k")),
    (("move", 2, 0), ()),
    (("throw", 1, 3), ("+", "+", "k")),
    (("look", 1, 0, 0), ("a", "+")),
)
LONG_PLAN = PLAN + ((("login", 1), ("k", "+")),)

BAD_OFFICES = (
    OTHERS
    + [5, (), OFFICE[:2], OFFICE + ((),), list(OFFICE), OFFICE[::-1], (OFFICE,), (Odd(), Odd(), Odd())]
    + [with_part(OFFICE, 0, part) for part in BAD_HOUSES]
    + [with_part(OFFICE, 1, part) for part in BAD_MODES]
    + [with_part(OFFICE, 2, part) for part in BAD_BOOKS]
)

BAD_LOOKS = [
    ("look",),
    ("look", 0, 0),
    ("look", 0, 0, 0, 0),
    ["look", 0, 0, 0],
    ("look", 3, 0, 0),
    ("look", -1, 0, 0),
    ("look", True, 0, 0),
    ("look", ("p", 0), 0, 0),
    ("look", 0, 4, 0),
    ("look", 0, -1, 0),
    ("look", 0, False, 0),
    ("look", 0, None, 0),
    ("look", 0, 0, 4),
    ("look", 0, 0, -1),
    ("look", 0, 0, True),
    ("look", 0, 0, "0"),
    ("Look", 0, 0, 0),
    ("see", 0, 0, 0),
    (b"look", 0, 0, 0),
    (None, 0, 0, 0),
    (Odd(), 0, 0, 0),
    ("look", Odd(), 0, 0),
    ("look", 0, Odd(), 0),
    ("look", 0, 0, Odd()),
]

# Deeds that are wrong elsewhere, for fewer folders or as right deeds, but right ones of the office.
RIGHT_HERE = [("over", 0, 3), ("over", 3, 0), ("under", 0, 3), ("under", 3, 0), ("write", 3, 0), ("throw", 3, 0)]
RIGHT_HERE += [("over", 0, 1), ("write", 0, 1), ("look", 0, 0, 0), ("shut", 0)]
BAD_OFFICE_DEEDS = (
    [deed for deed in BAD_RIGHT_DEEDS + BAD_DEEDS if repr(deed) not in map(repr, RIGHT_HERE)]
    + [("over", 0, 4), ("over", 4, 0), ("under", 4, 0), ("write", 4, 0), ("throw", 0, 4), ("under", 3, 3)]
    + BAD_LOOKS
)

STEP = (("over", 0, 1), ("a",))
BAD_STEPS = (
    [(deed, ("a",)) for deed in BAD_OFFICE_DEEDS]
    + [(STEP[0], route) for route in BAD_ROUTES]
    # Names that are not in the book.
    + [(STEP[0], route) for route in [("b",), ("a", "z"), ("+", "b", "a"), ("l",)]]
    + [None, 5, (), STEP[0], STEP[1], STEP[:1], STEP + ((),), list(STEP), STEP[::-1], Odd(), (Odd(), Odd())]
)

BAD_PLANS = (
    OTHERS
    + [5, STEP, [STEP], (STEP,) * 9, LONG_PLAN + (STEP,), {STEP: STEP}]
    + [(step,) for step in BAD_STEPS]
    + [PLAN + (step,) for step in BAD_STEPS[::7]]
    + [(step,) + PLAN for step in BAD_STEPS[::7]]
)

BAD_STEP_NUMBERS = OTHERS + [(), (1,), "1", -1, 7, 10 ** 59]
BAD_MOMENTS = OTHERS + [(), (1,), "1", -1, 8, 10 ** 59]
BAD_ORDERS = OTHERS + [
    5,
    (),
    "0123456",
    [0, 1, 2, 3, 4, 5, 6],
    (0, 1, 2, 3, 4, 5),
    (0, 1, 2, 3, 4, 5, 6, 7),
    (1, 2, 3, 4, 5, 6, 7),
    (-1, 0, 1, 2, 3, 4, 5),
    (0, 0, 1, 2, 3, 4, 5),
    (0, 1, 2, 3, 4, 5, 6, 6),
    (0, True, 2, 3, 4, 5, 6),
    (False, 1, 2, 3, 4, 5, 6),
    (0, 1, 2, 3, 4, 5, None),
    (0, 1, 2, 3, 4, 5, "6"),
    (0, 1, 2, 3, 4, 5, (6,)),
    (0, 1, 2, 3, 4, 5, Odd()),
    ((0, 1, 2, 3, 4, 5, 6),),
]


def some_routes(chance, names, count):
    letters = list(names) + ["+"]
    return [tuple(chance.choice(letters) for _ in range(chance.choice([0, 1, 1, 2, 2, 3, 8]))) for _ in range(count)]


def all_looks(people, size):
    return [("look", person, at, path) for person in range(people) for at in range(size) for path in range(4)]


def some_deeds(chance, people, size, count):
    """Deeds of an office by chance, of each kind as often, with papers at the first two paths alone."""
    papers = [deed for deed in all_deeds(size) if deed[0] in ("over", "under") or deed[2] < 2]
    looks = [look for look in all_looks(people, size) if look[3] < 2]
    kinds = [papers, papers, looks, all_right_deeds(people, size)]
    return [chance.choice(chance.choice(kinds)) for _ in range(count)]


def some_offices(count, seed, most=8, sizes=(1, 2, 3, 4)):
    """Tuples of an office and a plan."""
    chance = random.Random(seed)
    told = []
    for _ in range(count):
        people, size = chance.randint(1, 3), chance.choice(sizes)
        names = sorted(chance.sample("abcxyz", chance.randint(0, 4)))
        book = tuple((name, some_calendar(chance)) for name in names)
        office = (house_of(some_state(chance, people, size)), chance.choice(MODES), book)
        steps = chance.randint(0, most)
        plan = zip(some_deeds(chance, people, size, steps), some_routes(chance, names, steps))
        told.append((office, tuple(plan)))
    return told


def history_by_hand(office, plan, day):
    """All steps, day by day, of those on one day the ones with lesser numbers first."""
    days = [move_by_hand(office[2], route, day) for _, route in plan]
    return [(at, number) for at in sorted(set(days)) for number in range(len(plan)) if days[number] == at]


def order_by_hand(office, plan, day):
    return tuple(number for _, number in history_by_hand(office, plan, day))


def state_by_hand(office, plan, numbers):
    """The state after the steps with these numbers."""
    house, mode, _ = office
    logins = tuple(tuple(sorted(groups_by_hand(house[4], ("p", at), mode[3]))) for at in range(house[0]))
    state = (*house[1:], logins)
    for number in numbers:
        if plan[number][0] in all_right_deeds(house[0], len(house[2])):
            state = after_by_hand(mode, state, plan[number][0])
    return state


def papers_after(office, plan, numbers, contents):
    """What stands, by folder and path, after the steps; a written paper is told by the number of its step."""
    size = len(office[0][2])
    script = [plan[number][0] if plan[number][0] in all_deeds(size) else None for number in numbers]
    papers = papers_along(size, script, contents)[-1]
    return {
        at: source if source[0] == "first" else ("written", numbers[source[1]]) for at, source in papers.items()
    }


def sees_after(office, plan, numbers, person, folder):
    return sees_by_hand(office[1], state_by_hand(office, plan, numbers), person, folder)


def lists_after(office, plan, numbers, path):
    """The lists that tell, for all first contents, what stands in the folders after the steps."""
    size = len(office[0][2])
    alone = [papers_after(office, plan, numbers, contents) for contents in all_contents(size)]
    lists = []
    for folder in range(size):
        found = {papers[folder, path] for papers in alone if (folder, path) in papers}
        # A source that stands when fewer first papers are there as well stands further ahead.
        counts = {source: sum(papers.get((folder, path)) == source for papers in alone) for source in found}
        lists.append(tuple(sorted(found, key=lambda source: (source[0] == "written", -counts[source]))))
    return tuple(lists)


def found_by(office, plan, numbers, look):
    """What the look among these steps finds."""
    ahead = numbers[:numbers.index(look)]
    _, person, folder, path = plan[look][0]
    return lists_after(office, plan, ahead, path)[folder] if sees_after(office, plan, ahead, person, folder) else None
