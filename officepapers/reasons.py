"""Reasons: why a person sees a folder, or why not."""

from officepapers.checks import is_folder, is_whole, is_word
from officepapers.houses import (
    GROUPS,
    LOGINS,
    MEMBERS,
    deciding_entries,
    is_who,
    known_groups,
    need_sight,
    size_of,
    way_of,
)


def reason_for(house, mode, state, person, folder):
    """A reason that holds for the person and the folder in the state."""
    need_sight(house, mode, state, person, folder)
    return find_reason(mode, state, person, folder)


def reason_holds(house, mode, state, person, folder, reason):
    """Whether any object is a reason that holds for the person and the folder in the state."""
    need_sight(house, mode, state, person, folder)
    return is_reason(house, mode, state, person, folder, reason)


def find_reason(mode, state, person, folder):
    """As reason_for, for arguments that are known to be right."""
    entries = deciding_entries(mode, state, person, folder)
    if not entries:
        return "nothing", way_of(state, folder), known_groups(mode, state, person)
    bars = [entry for entry in entries if entry[2] == "bar"]
    at, who, _ = (bars + entries)[0]
    return ("barred" if bars else "sees"), at, who, _chains(mode, state, person, who)[0]


def is_reason(house, mode, state, person, folder, thing):
    """As reason_holds, for arguments ahead of the thing that are known to be right."""
    if not (isinstance(thing, tuple) and len(thing) in (3, 4)):
        return False
    entries = deciding_entries(mode, state, person, folder)
    size = size_of(house)
    if len(thing) == 3:
        told = (way_of(state, folder), known_groups(mode, state, person))
        rows = _is_row(size - 1, thing[1]) and _is_row(GROUPS[-1], thing[2])
        return is_word(thing[0], ("nothing",)) and not entries and rows and thing[1:] == told
    word, at, who, chain = thing
    if not (is_folder(size, at) and is_who(house[0], who) and _is_row(GROUPS[-1], chain)):
        return False
    if chain not in _chains(mode, state, person, who):
        return False
    if is_word(word, ("barred",)):
        return (at, who, "bar") in entries
    return is_word(word, ("sees",)) and (at, who, "allow") in entries and "bar" not in [entry[2] for entry in entries]


def _is_row(most, thing):
    """Whether any object is a tuple of integers from 0 to the most."""
    return isinstance(thing, tuple) and all([is_whole(one, 0, most) for one in thing])


def _chains(mode, state, person, who):
    """The list of the chains of the person for who, short ones first."""
    word, number = who
    if word == "p":
        return [()] if number == person else []
    if mode[2] == "login":
        return [(number,)] if number in state[LOGINS][person] else []
    members = state[MEMBERS]
    chains = [(group,) for group in GROUPS if (group, ("p", person)) in members]
    longest = chains
    # No group belongs to itself: a chain has none of them twice.
    for _ in GROUPS[1:] if mode[3] else ():
        steps = [(chain, group) for chain in longest for group in GROUPS]
        longest = [chain + (group,) for chain, group in steps if (group, ("g", chain[-1])) in members]
        chains = chains + longest
    return [chain for chain in chains if chain[-1] == number]
