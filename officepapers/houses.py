"""Houses: who sees which folder, by entries, groups and the folders above."""

from officepapers.checks import MOST_FOLDERS, is_folder, is_pair, is_rising, is_whole, is_word, need_folder
from officepapers.errors import BadHouse, BadMode, BadPerson, BadState

MOST_PEOPLE = 4
MOST_ENTRIES = 12
GROUPS = (0, 1, 2)
KINDS = ("allow", "bar")
# The words of a mode, each ascending.
FIRSTS = ("bar", "near")
MOVINGS = ("drops", "keeps")
KNOWNS = ("login", "now")
# Where its parts stand in a state.
PARENTS = 0
SHUT = 1
ENTRIES = 2
MEMBERS = 3
LOGINS = 4


def is_house(thing):
    """Whether any object is a house."""
    return (
        isinstance(thing, tuple)
        and len(thing) == 5
        and is_whole(thing[0], 1, MOST_PEOPLE)
        and is_parents(thing[1])
        and _is_furnished(thing[0], len(thing[1]) + 1, thing[2:])
    )


def is_mode(thing):
    """Whether any object is a mode."""
    return (
        isinstance(thing, tuple)
        and len(thing) == 4
        and is_word(thing[0], FIRSTS)
        and is_word(thing[1], MOVINGS)
        and is_word(thing[2], KNOWNS)
        and isinstance(thing[3], bool)
    )


def first_state(house, mode):
    """The state of the house in which everybody has just logged in."""
    need_house(house)
    need_mode(mode)
    return start_state(house, mode)


def sees(house, mode, state, person, folder):
    """Whether the person sees the folder in the state."""
    need_sight(house, mode, state, person, folder)
    return sees_in(mode, state, person, folder)


def all_sights(house, mode, state):
    """The list, ascending, of all tuples of a person and a folder that the person sees in the state."""
    need_held(house, mode, state)
    return sights_in(house, mode, state)


def size_of(house):
    """The number of the house's folders."""
    return len(house[1]) + 1


def is_person(house, thing):
    return is_whole(thing, 0, house[0] - 1)


def is_group(thing):
    return is_whole(thing, GROUPS[0], GROUPS[-1])


def is_who(people, thing):
    """Whether any object is one of so many persons or a group, as who."""
    if not is_pair(thing):
        return False
    if is_word(thing[0], ("p",)):
        return is_whole(thing[1], 0, people - 1)
    return is_word(thing[0], ("g",)) and is_group(thing[1])


def all_whos(house):
    """The list of all persons of the house and all groups, as who."""
    return [("p", person) for person in range(house[0])] + [("g", group) for group in GROUPS]


def start_state(house, mode):
    """As first_state, for a house and a mode that are known to be such."""
    people, parents, shut, entries, members = house
    logins = [groups_of(members, ("p", person), mode[3]) for person in range(people)]
    return parents, shut, entries, members, tuple(logins)


def groups_of(members, who, deep):
    """The tuple, ascending, of the groups that who belongs to, if deep also through other groups."""
    groups = [group for group in GROUPS if (group, who) in members]
    # Through as many groups as there are: so also one that belongs to itself is found.
    for _ in GROUPS[1:] if deep else ():
        known = groups
        groups = [group for group in GROUPS if group in known or _has_one_of(members, group, known)]
    return tuple(groups)


def known_groups(mode, state, person):
    """The tuple, ascending, of the person's groups as they are counted by the mode."""
    if mode[2] == "login":
        return state[LOGINS][person]
    return groups_of(state[MEMBERS], ("p", person), mode[3])


def way_of(state, folder):
    """The tuple of the folder and those above it up to folder 0 or to the first shut one."""
    way = [folder]
    while way[-1] != 0 and not state[SHUT][way[-1]]:
        way.append(state[PARENTS][way[-1] - 1])
    return tuple(way)


def deciding_entries(mode, state, person, folder):
    """The list of the entries that decide: the person sees the folder if there are some and no "bar" among them."""
    whos = [("p", person)] + [("g", group) for group in known_groups(mode, state, person)]
    way = way_of(state, folder)
    counting = [entry for entry in state[ENTRIES] if entry[0] in way and entry[1] in whos]
    if mode[0] == "bar":
        return counting
    nearest = [near for near in way if near in [entry[0] for entry in counting]][:1]
    return [entry for entry in counting if entry[0] in nearest]


def sees_in(mode, state, person, folder):
    """As sees, for arguments that are known to be right."""
    kinds = [kind for _, _, kind in deciding_entries(mode, state, person, folder)]
    return "allow" in kinds and "bar" not in kinds


def sights_in(house, mode, state):
    """As all_sights, for arguments that are known to be right."""
    pairs = [(person, folder) for person in range(house[0]) for folder in range(size_of(house))]
    return [(person, folder) for person, folder in pairs if sees_in(mode, state, person, folder)]


def is_acyclic(members):
    """Whether no group belongs to itself, be it through others."""
    return not any([group in groups_of(members, ("g", group), True) for group in GROUPS])


def need_house(thing):
    if not is_house(thing):
        raise BadHouse("a house is a tuple of people, parents, shut, entries and members")


def need_mode(thing):
    if not is_mode(thing):
        raise BadMode("a mode is a tuple of which entry comes first, what moving does, what is known, and deep")


def need_state(house, thing):
    if not _is_state(house, thing):
        raise BadState("a state is a tuple of parents, shut, entries, members and logins as of its house")


def need_person(house, thing):
    if not is_person(house, thing):
        raise BadPerson(f"a person is an integer from 0 to {house[0] - 1}")


def need_held(house, mode, state):
    need_house(house)
    need_mode(mode)
    need_state(house, state)


def need_sight(house, mode, state, person, folder):
    need_held(house, mode, state)
    need_person(house, person)
    need_folder(size_of(house), folder)


def _has_one_of(members, group, groups):
    return any([(group, ("g", other)) in members for other in groups])


def _is_state(house, thing):
    return (
        isinstance(thing, tuple)
        and len(thing) == 5
        and is_parents(thing[0])
        and len(thing[0]) == len(house[1])
        and _is_furnished(house[0], size_of(house), thing[1:4])
        and _is_logins(house[0], thing[4])
    )


def _is_furnished(people, size, parts):
    """Whether the parts are shut, entries and members of a house with so many people and folders."""
    shut, entries, members = parts
    return (
        isinstance(shut, tuple)
        and len(shut) == size
        and all([isinstance(one, bool) for one in shut])
        and _is_entries(people, size, entries)
        and _is_members(people, members)
    )


def is_parents(thing):
    if not (isinstance(thing, tuple) and len(thing) < MOST_FOLDERS):
        return False
    size = len(thing) + 1
    return all([is_folder(size, parent) for parent in thing]) and all([_comes_up(thing, at) for at in range(size)])


def _comes_up(parents, folder):
    """Whether one comes from the folder to folder 0."""
    for _ in parents:
        if folder != 0:
            folder = parents[folder - 1]
    return folder == 0


def _is_entries(people, size, thing):
    return (
        isinstance(thing, tuple)
        and len(thing) <= MOST_ENTRIES
        and all([_is_entry(people, size, entry) for entry in thing])
        and is_rising([entry[:2] for entry in thing])
    )


def _is_entry(people, size, thing):
    return (
        isinstance(thing, tuple)
        and len(thing) == 3
        and is_folder(size, thing[0])
        and is_who(people, thing[1])
        and is_word(thing[2], KINDS)
    )


def _is_members(people, thing):
    return (
        isinstance(thing, tuple)
        and all([is_pair(pair) and is_group(pair[0]) and is_who(people, pair[1]) for pair in thing])
        and is_rising(thing)
        and is_acyclic(thing)
    )


def _is_logins(people, thing):
    return isinstance(thing, tuple) and len(thing) == people and all([_is_groups(groups) for groups in thing])


def _is_groups(thing):
    return isinstance(thing, tuple) and all([is_group(group) for group in thing]) and is_rising(thing)
