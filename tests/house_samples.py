"""What the tests of houses, rights and reasons share: right and wrong values, and the document's rules done by hand."""

import itertools
import random

from samples import OTHERS, Odd

WORDS = (("bar", "near"), ("drops", "keeps"), ("login", "now"), (False, True))
MODES = list(itertools.product(*WORDS))
MODE = ("near", "drops", "now", True)

ENTRIES = ((0, ("g", 1), "allow"), (0, ("p", 0), "bar"), (1, ("p", 2), "bar"), (3, ("g", 0), "allow"))
MEMBERS = ((0, ("p", 1)), (1, ("g", 0)), (1, ("p", 2)), (2, ("g", 0)))
# Folder 2 lies in folder 1, which lies in folder 0 as folder 3 does.
PARENTS = (0, 1, 0)
SHUT = (False, False, True, False)
HOUSE = (3, PARENTS, SHUT, ENTRIES, MEMBERS)
SIZE = 4
LOGINS = ((2,), (), (0, 1))
STATE = (PARENTS, SHUT, ENTRIES, MEMBERS, LOGINS)

BAD_PARENTS = [
    None,
    0,
    (0, 1, 2, 3, 4, 5),
    (0, 0, 0, 0, 0, 0),
    [0, 1, 0],
    "010",
    (0, 1, 4),
    (0, 1, -1),
    (1, 1, 0),
    (0, 2, 0),
    (2, 1, 0),
    (0, 3, 2),
    (2, 3, 1),
    (0, 1, 3),
    (0, True, 0),
    (False, 1, 0),
    (0, None, 0),
    (0, "1", 0),
    (0, (1,), 0),
    (0, Odd(), 0),
    Odd(),
]

BAD_SHUT = [
    None,
    True,
    (),
    (False, False, True),
    (False, False, True, False, False),
    [False, False, True, False],
    (0, 0, 1, 0),
    (False, False, 1, False),
    (0, False, True, False),
    (False, False, None, False),
    (False, False, "shut", False),
    (False, False, Odd(), False),
    Odd(),
]

BAD_WHOS = OTHERS + [
    5,
    0,
    (),
    "p",
    ("p",),
    ("p", 0, 0),
    ["p", 0],
    ("p", 3),
    ("p", -1),
    ("p", True),
    ("p", False),
    ("p", None),
    ("p", "0"),
    ("p", (0,)),
    ("g", 3),
    ("g", -1),
    ("g", True),
    ("g", "1"),
    ("P", 0),
    ("q", 0),
    ("", 0),
    ("pg", 0),
    (0, "p"),
    (0, 0),
    (b"p", 0),
    (None, 0),
    (Odd(), 0),
    ("p", Odd()),
    ("g", Odd()),
]

THIRTEEN = tuple(sorted([(folder, ("p", person), "bar") for folder in range(4) for person in range(3)] + [ENTRIES[3]]))

BAD_ENTRIES = [
    None,
    list(ENTRIES),
    ENTRIES[0],
    # Out of order, and twice for a folder and who.
    ENTRIES[::-1],
    (ENTRIES[1], ENTRIES[0]),
    (ENTRIES[0], ENTRIES[2], ENTRIES[1], ENTRIES[3]),
    (ENTRIES[0], ENTRIES[0]),
    ((0, ("p", 0), "allow"), (0, ("p", 0), "bar")),
    ((0, ("g", 1), "allow"), (0, ("g", 1), "bar"), (1, ("p", 0), "bar")),
    ((0, ("p", 0), "allow"), (0, ("g", 2), "bar")),
    THIRTEEN,
    ((4, ("p", 0), "bar"),),
    ((-1, ("p", 0), "bar"),),
    ((True, ("p", 0), "bar"),),
    ((None, ("p", 0), "bar"),),
    (("0", ("p", 0), "bar"),),
    ((0, ("p", 0)),),
    ((0, ("p", 0), "bar", "bar"),),
    ([0, ("p", 0), "bar"],),
    ((0, "p", 0, "bar"),),
    ((0, ("p", 0), "clear"),),
    ((0, ("p", 0), "Bar"),),
    ((0, ("p", 0), ""),),
    ((0, ("p", 0), True),),
    ((0, ("p", 0), None),),
    ((0, ("p", 0), ("bar",)),),
    ((0, ("p", 0), Odd()),),
    ((Odd(), ("p", 0), "bar"),),
    ("bar",),
    (None,),
    (Odd(),),
    Odd(),
] + [((0, who, "bar"),) for who in BAD_WHOS]

BAD_MEMBERS = [
    None,
    list(MEMBERS),
    MEMBERS[0],
    MEMBERS[::-1],
    (MEMBERS[1], MEMBERS[0]),
    (MEMBERS[0], MEMBERS[0]),
    (MEMBERS[0], MEMBERS[2], MEMBERS[1], MEMBERS[3]),
    ((0, ("p", 0)), (0, ("g", 1))),
    # A group that belongs to itself, also through others.
    ((0, ("g", 0)),),
    ((1, ("g", 1)),),
    ((2, ("g", 2)),),
    ((0, ("g", 1)), (1, ("g", 0))),
    ((0, ("g", 2)), (2, ("g", 0))),
    ((1, ("g", 2)), (2, ("g", 1))),
    ((0, ("g", 1)), (1, ("g", 2)), (2, ("g", 0))),
    ((0, ("g", 2)), (1, ("g", 0)), (2, ("g", 1))),
    ((0, ("g", 1)), (0, ("p", 0)), (1, ("g", 2)), (2, ("g", 0)), (2, ("p", 1))),
    ((3, ("p", 0)),),
    ((-1, ("p", 0)),),
    ((True, ("p", 0)),),
    (("g", 0),),
    ((("g", 0), ("p", 0)),),
    ((0, ("p", 0), 0),),
    ((0,),),
    ([0, ("p", 0)],),
    ((Odd(), ("p", 0)),),
    (None,),
    (Odd(),),
    Odd(),
] + [((0, who),) for who in BAD_WHOS]

BAD_PEOPLE = [None, True, False, 0, 5, -1, "3", (3,), Odd()]


def with_part(whole, at, part):
    return whole[:at] + (part,) + whole[at + 1:]


BAD_HOUSES = (
    OTHERS
    + [5, (), HOUSE[:4], HOUSE + ((),), list(HOUSE), HOUSE[1:], (HOUSE,), (Odd(), Odd(), Odd(), Odd(), Odd())]
    # A person that there is not.
    + [with_part(HOUSE, 0, 2), with_part(HOUSE, 0, 1)]
    + [with_part(HOUSE, 0, part) for part in BAD_PEOPLE]
    + [with_part(HOUSE, 1, part) for part in BAD_PARENTS + [(), (0,), (0, 1), (0, 1, 0, 0)]]
    + [with_part(HOUSE, 2, part) for part in BAD_SHUT]
    + [with_part(HOUSE, 3, part) for part in BAD_ENTRIES]
    + [with_part(HOUSE, 4, part) for part in BAD_MEMBERS]
)

BAD_MODES = OTHERS + [
    5,
    (),
    "bar",
    MODE[:3],
    MODE + (True,),
    list(MODE),
    MODE[::-1],
    ("far", "keeps", "now", True),
    ("Bar", "keeps", "now", True),
    ("", "keeps", "now", True),
    ("bar", "keep", "now", True),
    ("bar", "near", "now", True),
    ("bar", "", "now", True),
    ("bar", "keeps", "never", True),
    ("bar", "keeps", "drops", True),
    ("bar", "keeps", "", True),
    ("bar", "keeps", "now", 1),
    ("bar", "keeps", "now", 0),
    ("bar", "keeps", "now", "deep"),
    ("bar", "keeps", "now", None),
    ("bar", "keeps", "now", ()),
    (b"bar", "keeps", "now", True),
    (("bar",), "keeps", "now", True),
    (None, "keeps", "now", True),
    ("bar", None, "now", True),
    ("bar", "keeps", None, True),
    (True, True, True, True),
    (Odd(), Odd(), Odd(), Odd()),
    (Odd(), "keeps", "now", True),
    ("bar", Odd(), "now", True),
    ("bar", "keeps", Odd(), True),
    ("bar", "keeps", "now", Odd()),
]

BAD_LOGINS = [
    None,
    (),
    ((), ()),
    ((), (), (), ()),
    [(), (), ()],
    ([], (), ()),
    ((), (), (1, 0)),
    ((), (), (0, 0)),
    ((0, 1, 2, 2), (), ()),
    ((), (3,), ()),
    ((), (-1,), ()),
    ((True,), (), ()),
    ((), (0, True), ()),
    ((), 0, ()),
    ((), None, ()),
    ((), "0", ()),
    ((), ("0",), ()),
    ((), (("g", 0),), ()),
    ((), (Odd(),), ()),
    (Odd(), (), ()),
    Odd(),
]

BAD_STATES = (
    OTHERS
    + [5, (), STATE[:4], STATE + ((),), list(STATE), HOUSE, STATE[1:], (STATE,), (Odd(), Odd(), Odd(), Odd(), Odd())]
    + [with_part(STATE, 0, part) for part in BAD_PARENTS + [(), (0,), (0, 1), (0, 1, 0, 0)]]
    # As of another house.
    + [((0, 1, 0, 0), SHUT + (False,), ENTRIES, MEMBERS, LOGINS), ((0, 1), SHUT[:3], (), (), LOGINS)]
    + [with_part(STATE, 1, part) for part in BAD_SHUT]
    + [with_part(STATE, 2, part) for part in BAD_ENTRIES]
    + [with_part(STATE, 3, part) for part in BAD_MEMBERS]
    + [with_part(STATE, 4, part) for part in BAD_LOGINS]
)

BAD_PERSONS = OTHERS + [(), (1,), "1", "p1", ("p", 1), -1, 3, 10 ** 59]
BAD_FOLDERS = OTHERS + [(), (1,), "1", -1, 4, 10 ** 59]

# What is none of HOUSE.
BAD_RIGHT_DEEDS = OTHERS + [
    5,
    "allow",
    (),
    ("allow",),
    ("allow", 0),
    ("allow", 0, ("p", 0), 0),
    ["allow", 0, ("p", 0)],
    ("allow", 4, ("p", 0)),
    ("allow", -1, ("p", 0)),
    ("allow", True, ("p", 0)),
    ("allow", None, ("p", 0)),
    ("allow", ("p", 0), 0),
    ("bar", 4, ("g", 0)),
    ("bar", False, ("g", 0)),
    ("clear", 4, ("g", 0)),
    ("clear", 0),
    ("join", 3, ("p", 0)),
    ("join", -1, ("p", 0)),
    ("join", True, ("p", 0)),
    ("join", ("g", 0), ("p", 0)),
    ("join", 0, 0),
    ("join", 0),
    ("leave", 3, ("p", 0)),
    ("leave", None, ("p", 0)),
    ("leave", 0, ("g", 3)),
    ("move", 4, 0),
    ("move", 1, 4),
    ("move", -1, 0),
    ("move", 1, -1),
    ("move", True, 0),
    ("move", 1, False),
    ("move", 1, None),
    ("move", 1),
    ("move", 1, 0, 0),
    ("move", 1, ("p", 0)),
    ("shut", 4),
    ("shut", -1),
    ("shut", True),
    ("shut", None),
    ("shut", 0, 0),
    ("shut", ("p", 0)),
    ("shut",),
    ("open", 4),
    ("open", False),
    ("open", "0"),
    ("open", 0, True),
    ("login", 3),
    ("login", -1),
    ("login", True),
    ("login", ("p", 0)),
    ("login", 0, 0),
    ("login",),
    ("Allow", 0, ("p", 0)),
    ("", 0, ("p", 0)),
    ("over", 0, 1),
    ("write", 0, 1),
    ("look", 0, 0, 0),
    ("logout", 0),
    (b"shut", 0),
    (("shut",), 0),
    (None, 0),
    (0, 0),
    (Odd(), 0),
    (Odd(), 0, ("p", 0)),
    (Odd(), 0, 0),
    ("shut", Odd()),
    ("login", Odd()),
    ("allow", Odd(), ("p", 0)),
    ("join", Odd(), ("p", 0)),
    ("move", Odd(), 0),
    ("move", 1, Odd()),
] + [(word, 0, who) for word in ("allow", "bar", "clear", "join", "leave") for who in BAD_WHOS]


def all_whos(people):
    return [("g", group) for group in range(3)] + [("p", person) for person in range(people)]


def all_right_deeds(people, size):
    whos = all_whos(people)
    return (
        list(itertools.product(("allow", "bar", "clear"), range(size), whos))
        + list(itertools.product(("join", "leave"), range(3), whos))
        + list(itertools.product(("move",), range(size), range(size)))
        + list(itertools.product(("shut", "open"), range(size)))
        + list(itertools.product(("login",), range(people)))
    )


def groups_by_hand(members, who, deep):
    """The groups that who belongs to, as a set."""
    found = {group for group, other in members if other == who}
    for group in list(found) if deep else []:
        found |= groups_by_hand(members, ("g", group), True)
    return found


def counted_groups(mode, state, person):
    if mode[2] == "login":
        return set(state[4][person])
    return groups_by_hand(state[3], ("p", person), mode[3])


def way_by_hand(state, folder):
    parents, shut = state[0], state[1]
    if folder == 0 or shut[folder]:
        return [folder]
    return [folder] + way_by_hand(state, parents[folder - 1])


def kinds_by_hand(mode, state, person, folder):
    """The set of the kinds of the person's entries at this one folder."""
    groups = counted_groups(mode, state, person)
    return {
        kind for at, (word, number), kind in state[2]
        if at == folder and (number == person if word == "p" else number in groups)
    }


def sees_by_hand(mode, state, person, folder):
    kinds = [kinds_by_hand(mode, state, person, at) for at in way_by_hand(state, folder)]
    if mode[0] == "near":
        first = next((found for found in kinds if found), {"bar"})
        return "bar" not in first
    return any("allow" in found for found in kinds) and not any("bar" in found for found in kinds)


def sights_by_hand(mode, state):
    people, size = len(state[4]), len(state[1])
    return [(person, at) for person in range(people) for at in range(size) if sees_by_hand(mode, state, person, at)]


def is_below(parents, folder, other):
    """Whether the folder is the other one or lies below it."""
    while folder not in (0, other):
        folder = parents[folder - 1]
    return folder == other


def after_by_hand(mode, state, deed):
    """The state after the deed, by the words of the document."""
    parents, shut, logins = list(state[0]), list(state[1]), list(state[4])
    entries = {(folder, who): kind for folder, who, kind in state[2]}
    members = set(state[3])
    word = deed[0]
    if word in ("allow", "bar"):
        if len(entries) < 12 or deed[1:] in entries:
            entries[deed[1:]] = word
    elif word == "clear":
        entries.pop(deed[1:], None)
    elif word == "join":
        members.add(deed[1:])
        if any(group in groups_by_hand_of_any(members, group) for group in range(3)):
            members = set(state[3])
    elif word == "leave":
        members.discard(deed[1:])
    elif word == "move":
        _, folder, parent = deed
        if folder != 0 and not is_below(parents, parent, folder):
            parents[folder - 1] = parent
            if mode[1] == "drops":
                entries = {key: entries[key] for key in entries if key[0] != folder}
    elif word == "login":
        logins[deed[1]] = tuple(sorted(groups_by_hand(state[3], ("p", deed[1]), mode[3])))
    else:
        shut[deed[1]] = {"shut": True, "open": False}[word]
    told = tuple(sorted((folder, who, kind) for (folder, who), kind in entries.items()))
    return tuple(parents), tuple(shut), told, tuple(sorted(members)), tuple(logins)


def groups_by_hand_of_any(members, group):
    """The groups that the group belongs to through others, be it that one belongs to itself."""
    found = set()
    more = {("g", group)}
    while more:
        more = {("g", above) for above, who in members if who in more} - {("g", above) for above in found}
        found |= {above for _, above in more}
    return found


def all_trees(size):
    """All parents of houses with so many folders."""
    rows = itertools.product(range(size), repeat=size - 1)
    return [row for row in rows if all(ends_at_top(row, at) for at in range(1, size))]


def ends_at_top(parents, folder):
    for _ in range(len(parents)):
        folder = parents[folder - 1] if folder else 0
    return folder == 0


def some_members(chance, people):
    members = set()
    order = chance.sample(range(3), 3)
    for at, group in enumerate(order):
        members |= {(group, ("g", other)) for other in order[:at] if chance.random() < 0.4}
        members |= {(group, ("p", person)) for person in range(people) if chance.random() < 0.35}
    return tuple(sorted(members))


def some_entries(chance, people, size, most=12):
    keys = [(folder, who) for folder in range(size) for who in all_whos(people)]
    keys = chance.sample(keys, min(len(keys), chance.randint(0, most)))
    return tuple(sorted((folder, who, chance.choice(["allow", "allow", "bar"])) for folder, who in keys))


def some_state(chance, people, size, most=12):
    """A state by chance, with logins that perhaps never came about."""
    parents = tuple(chance.randrange(at) for at in range(1, size))
    shut = tuple(chance.random() < 0.2 for _ in range(size))
    logins = tuple(tuple(sorted(chance.sample(range(3), chance.randint(0, 3)))) for _ in range(people))
    # The folders are numbered anew, so that parents need not be less.
    names = [0] + chance.sample(range(1, size), size - 1)
    moved = [0] * (size - 1)
    for at in range(1, size):
        moved[names[at] - 1] = names[parents[at - 1]]
    return tuple(moved), shut, some_entries(chance, people, size, most), some_members(chance, people), logins


def house_of(state):
    return (len(state[4]), *state[:4])


def some_states(count, seed, most=12):
    """Tuples of a house and a state of it, unlike the one in which the house is at first."""
    chance = random.Random(seed)
    states = []
    for _ in range(count):
        people, size = chance.randint(1, 4), chance.randint(1, 6)
        states.append((house_of(some_state(chance, people, size)), some_state(chance, people, size, most)))
    return states
