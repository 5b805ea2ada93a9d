"""Moments: what the rights and the papers have come to after each step of a plan's history."""

from officepapers.checks import PATHS, is_whole, need_day, need_path
from officepapers.copies import CHANGES, COPIES, first_lists, lists_behind
from officepapers.errors import BadMoment
from officepapers.houses import sees_in, size_of, start_state
from officepapers.plans import history_for, need_plan, order_for
from officepapers.rights import do_right


def state_at(office, plan, day, moment):
    """The state at the moment."""
    need_moment(office, plan, day, moment)
    state, _ = worlds_along(office, plan, order_for(office, plan, day))[moment]
    return state


def lists_at(office, plan, day, moment, path):
    """The tuple of the lists of all folders for the path at the moment."""
    need_moment(office, plan, day, moment)
    need_path(path)
    _, lists = worlds_along(office, plan, order_for(office, plan, day))[moment]
    return lists[path]


def day_at(office, plan, day, moment):
    """The day of the last step done by the moment; None for the moment 0."""
    need_moment(office, plan, day, moment)
    return history_for(office, plan, day)[moment - 1][0] if moment > 0 else None


def script_at(office, plan, day, moment):
    """The tuple of the script of the paper deeds done by the moment and the tuple of the numbers of their steps."""
    need_moment(office, plan, day, moment)
    return script_of(plan, order_for(office, plan, day)[:moment])


def swap_steps(office, plan, day):
    """The list, ascending, of all tuples of a number and the one directly behind it that can be exchanged.

    They can if that leads to the same state, the same lists and, if a look is among them, the same sources of it.
    """
    need_plan(office, plan)
    need_day(day)
    order = order_for(office, plan, day)
    worlds = worlds_along(office, plan, order)
    pairs = []
    for at in range(len(order) - 1):
        pair = order[at:at + 2]
        if _outcome(office, plan, worlds[at], pair) == _outcome(office, plan, worlds[at], pair[::-1]):
            pairs.append(pair)
    return sorted(pairs)


def alike_days(office, plan, day, other):
    """Whether the last moments of both starting days have the same state and the same lists for all paths."""
    need_plan(office, plan)
    need_day(day)
    need_day(other)
    ends = [worlds_along(office, plan, order_for(office, plan, start))[-1] for start in (day, other)]
    return ends[0] == ends[1]


def is_with_papers(deed):
    """Whether the deed, which is one of an office, is a paper deed."""
    return deed[0] in COPIES or deed[0] in CHANGES


def first_world(office):
    """The tuple of the first state and, for each path, the lists at first."""
    house, mode, _ = office
    return start_state(house, mode), (first_lists(size_of(house)),) * len(PATHS)


def world_behind(office, world, deed, number):
    """The tuple of the state and the lists behind the deed; what it writes is told as written at the number."""
    state, lists = world
    if deed[0] == "look":
        return world
    if is_with_papers(deed):
        return state, tuple([lists_behind(lists[path], deed, path, number) for path in PATHS])
    return do_right(office[1], state, deed), lists


def worlds_along(office, plan, numbers):
    """The list of the tuples of a state and lists: at first, and after each of the steps with these numbers."""
    worlds = [first_world(office)]
    for number in numbers:
        worlds.append(world_behind(office, worlds[-1], plan[number][0], number))
    return worlds


def script_of(plan, numbers):
    """The tuple of the script of the paper deeds of the steps with these numbers and the tuple of their numbers."""
    places = tuple([number for number in numbers if is_with_papers(plan[number][0])])
    return tuple([plan[number][0] for number in places]), places


def looks_along(office, plan, numbers):
    """The dict of what each look among the steps with these numbers finds, by its number."""
    worlds = worlds_along(office, plan, numbers)
    return {
        number: sources_seen(office, world, plan[number][0])
        for world, number in zip(worlds, numbers) if plan[number][0][0] == "look"
    }


def sources_seen(office, world, look):
    """The tuple of the sources in the looked folder as the look finds it; None if the person does not see it."""
    _, person, folder, path = look
    state, lists = world
    return lists[path][folder] if sees_in(office[1], state, person, folder) else None


def need_moment(office, plan, day, moment):
    need_plan(office, plan)
    need_day(day)
    if not is_whole(moment, 0, len(plan)):
        raise BadMoment(f"a moment is an integer from 0 to {len(plan)}")


def _outcome(office, plan, world, numbers):
    """The world behind the steps with these numbers, and a dict of what the looks among them find."""
    found = {}
    for number in numbers:
        deed = plan[number][0]
        if deed[0] == "look":
            found[number] = sources_seen(office, world, deed)
        world = world_behind(office, world, deed, number)
    return world, found
