"""Rights: what right deeds make of a state, which of them commute, and what turns on them."""

from officepapers.checks import is_folder, is_word, need_folder
from officepapers.errors import BadDeed
from officepapers.houses import (
    ENTRIES,
    FIRSTS,
    GROUPS,
    KNOWNS,
    LOGINS,
    MEMBERS,
    MOST_ENTRIES,
    MOVINGS,
    PARENTS,
    SHUT,
    all_whos,
    groups_of,
    is_acyclic,
    is_group,
    is_parents,
    is_person,
    is_who,
    need_held,
    need_house,
    need_mode,
    need_person,
    need_sight,
    need_state,
    sees_in,
    sights_in,
    size_of,
)

ENTRY_WORDS = ("allow", "bar", "clear")
MEMBER_WORDS = ("join", "leave")
SHUT_WORDS = ("open", "shut")


def after_right(house, mode, state, deed):
    """The state after the right deed."""
    need_held(house, mode, state)
    _need_right_deed(house, deed)
    return do_right(mode, state, deed)


def commute(house, mode, deed, other):
    """A state in which the orders of the two right deeds lead to two; None if they lead to one in every state."""
    need_house(house)
    need_mode(mode)
    _need_right_deed(house, deed)
    _need_right_deed(house, other)
    for state in _telling_states(house, deed, other):
        if do_all(mode, state, (deed, other)) != do_all(mode, state, (other, deed)):
            return state
    return None


def turning_deeds(house, mode, state, person, folder):
    """The list, ascending, of all right deeds that, done alone, change whether the person sees the folder."""
    need_sight(house, mode, state, person, folder)
    now = sees_in(mode, state, person, folder)
    deeds = all_right_deeds(house)
    return [deed for deed in deeds if sees_in(mode, do_right(mode, state, deed), person, folder) != now]


def idle_entries(house, mode, state):
    """The list, ascending, of the entries of which each one, taken out alone, changes no sight."""
    need_held(house, mode, state)
    now = sights_in(house, mode, state)
    return [entry for entry in state[ENTRIES] if sights_in(house, mode, _without_entry(state, entry)) == now]


def seen_modes(house, state, person, folder):
    """The list, ascending, of the modes by which the person sees the folder in the state."""
    need_house(house)
    need_state(house, state)
    need_person(house, person)
    need_folder(size_of(house), folder)
    modes = [
        (first, moving, known, deep)
        for first in FIRSTS for moving in MOVINGS for known in KNOWNS for deep in (False, True)
    ]
    return [mode for mode in modes if sees_in(mode, state, person, folder)]


def is_right_deed(house, thing):
    """Whether any object is a right deed of the house."""
    if not (isinstance(thing, tuple) and len(thing) in (2, 3)):
        return False
    word, at = thing[:2]
    size = size_of(house)
    if len(thing) == 2:
        return is_person(house, at) if is_word(word, ("login",)) else is_word(word, SHUT_WORDS) and is_folder(size, at)
    if is_word(word, ("move",)):
        return is_folder(size, at) and is_folder(size, thing[2])
    if is_word(word, MEMBER_WORDS):
        return is_group(at) and is_who(house[0], thing[2])
    return is_word(word, ENTRY_WORDS) and is_folder(size, at) and is_who(house[0], thing[2])


def all_right_deeds(house):
    """The list, ascending, of all right deeds of the house."""
    people = range(house[0])
    folders = range(size_of(house))
    whos = all_whos(house)
    deeds = [(word, folder, who) for word in ENTRY_WORDS for folder in folders for who in whos]
    deeds.extend([(word, group, who) for word in MEMBER_WORDS for group in GROUPS for who in whos])
    deeds.extend([("move", folder, parent) for folder in folders for parent in folders])
    deeds.extend([(word, folder) for word in SHUT_WORDS for folder in folders])
    deeds.extend([("login", person) for person in people])
    return sorted(deeds)


def do_right(mode, state, deed):
    """As after_right, for arguments that are known to be right."""
    action = ACTIONS[deed[0]]
    return action(mode, state, deed)


def do_all(mode, state, deeds):
    """The state after the right deeds, one after the other."""
    for deed in deeds:
        state = do_right(mode, state, deed)
    return state


def _put_entry(mode, state, deed):
    kind, folder, who = deed
    others = [entry for entry in state[ENTRIES] if entry[:2] != (folder, who)]
    if len(others) == MOST_ENTRIES:
        return state
    return _with_part(state, ENTRIES, sorted(others + [(folder, who, kind)]))


def _clear_entry(mode, state, deed):
    return _with_part(state, ENTRIES, [entry for entry in state[ENTRIES] if entry[:2] != deed[1:]])


def _join(mode, state, deed):
    members = sorted(set([*state[MEMBERS], deed[1:]]))
    return _with_part(state, MEMBERS, members) if is_acyclic(members) else state


def _leave(mode, state, deed):
    return _with_part(state, MEMBERS, [pair for pair in state[MEMBERS] if pair != deed[1:]])


def _move(mode, state, deed):
    _, folder, parent = deed
    parents = state[PARENTS]
    # Folder 0 is above each parent, so it is never moved.
    if folder in _line_up(parents, parent):
        return state
    state = _with_part(state, PARENTS, parents[:folder - 1] + (parent,) + parents[folder:])
    if mode[1] == "keeps":
        return state
    return _with_part(state, ENTRIES, [entry for entry in state[ENTRIES] if entry[0] != folder])


def _set_shut(mode, state, deed):
    word, folder = deed
    shut = state[SHUT]
    return _with_part(state, SHUT, shut[:folder] + (word == "shut",) + shut[folder + 1:])


def _login(mode, state, deed):
    person = deed[1]
    logins = state[LOGINS]
    groups = groups_of(state[MEMBERS], ("p", person), mode[3])
    return _with_part(state, LOGINS, logins[:person] + (groups,) + logins[person + 1:])


ACTIONS = {
    "allow": _put_entry,
    "bar": _put_entry,
    "clear": _clear_entry,
    "join": _join,
    "leave": _leave,
    "move": _move,
    "open": _set_shut,
    "shut": _set_shut,
    "login": _login,
}


def _with_part(state, at, part):
    """The state with this part in the place of its own one."""
    return state[:at] + (tuple(part),) + state[at + 1:]


def _without_entry(state, entry):
    return _with_part(state, ENTRIES, [other for other in state[ENTRIES] if other != entry])


def _line_up(parents, folder):
    """The list of the folder and all folders above it."""
    line = [folder]
    while line[-1] != 0:
        line.append(parents[line[-1] - 1])
    return line


def _telling_states(house, deed, other):
    """The list of states of which one leads to two if any state does."""
    # Only two moves turn on where the folders lie. Of one of them and another deed it is enough that it may be done.
    # Only joins and leaves turn on the members: on the chains of groups, and on a group that the person who logs in
    # belongs to. All else leads to two in each state or in none, but a move drops only what there is.
    people, size = house[0], size_of(house)
    words = (deed[0], other[0])
    trees = _all_trees(size) if words == ("move", "move") else [(0,) * (size - 1)]
    members = [()]
    if words[0] in MEMBER_WORDS or words[1] in MEMBER_WORDS:
        persons = [number for word, number in (deed[:2], other[:2]) if word == "login"]
        members = _all_members((persons + [0])[0])
    shut = (False,) * size
    entries = tuple([(folder, ("p", 0), "allow") for folder in range(size)])
    return [(parents, shut, entries, pairs, ((),) * people) for parents in trees for pairs in members]


def _all_trees(size):
    trees = [()]
    for folder in range(1, size):
        trees = [parents + (parent,) for parents in trees for parent in range(size) if parent != folder]
    return [parents for parents in trees if is_parents(parents)]


def _all_members(person):
    """The list of all members of nothing but groups and, in at most one group, the person."""
    links = [()]
    for pair in [(group, ("g", other)) for group in GROUPS for other in GROUPS if group != other]:
        links = links + [one + (pair,) for one in links]
    own = [()] + [((group, ("p", person)),) for group in GROUPS]
    return [tuple(sorted(one + pair)) for one in links if is_acyclic(one) for pair in own]


def _need_right_deed(house, thing):
    if not is_right_deed(house, thing):
        raise BadDeed("a right deed is a tuple of its word and folders, groups, persons and who of the house")
