"""What can be seen for all starting days, and which steps of a plan can be left out."""

from officepapers.checks import need_day, need_path
from officepapers.houses import need_person
from officepapers.moments import looks_along
from officepapers.plans import cuts_of, nearest_orders, need_look, need_plan, order_for
from officepapers.sight import need_source, sees_source


def ever_sees(office, plan, person, path, source):
    """The tuple of a word, the day nearest to 0 for which the person can come to see the source, and one for which not.

    The word is "always", "never" or "sometimes".
    """
    need_plan(office, plan)
    _need_watched(office, plan, person, path, source)
    nearest = {}
    for order, day in nearest_orders(office, plan).items():
        seen = sees_source(office, plan, order, person, path, source)
        if seen not in nearest:
            nearest[seen] = day
    if len(nearest) == 2:
        return "sometimes", nearest[True], nearest[False]
    return ("always" if True in nearest else "never"), nearest.get(True), nearest.get(False)


def ever_look(office, plan, number):
    """The list of the tuples of all that the look ever finds, None first, and the day nearest to 0 that has it."""
    need_plan(office, plan)
    need_look(plan, number)
    nearest = {}
    for order, day in nearest_orders(office, plan).items():
        sources = looks_along(office, plan, order)[number]
        if sources not in nearest:
            nearest[sources] = day
    blind = [(None, nearest[None])] if None in nearest else []
    return blind + sorted([(sources, nearest[sources]) for sources in nearest if sources is not None])


def least_cuts(office, plan, day, person, path, source):
    """The list, ascending, of the tuples of as few steps as any without which the person cannot see the source.

    [()] if the person cannot anyhow, [] if more than two steps would have to be left out.
    """
    need_plan(office, plan)
    need_day(day)
    _need_watched(office, plan, person, path, source)
    order = order_for(office, plan, day)
    writing = source[1] if source[0] == "written" else None
    for cuts in cuts_of(plan, writing):
        found = [cut for cut in cuts if not sees_source(office, plan, _without(order, cut), person, path, source)]
        if found:
            return found
    return []


def idle_steps(office, plan, day):
    """The list, ascending, of the steps that are no looks and that change, each left out alone, no look."""
    need_plan(office, plan)
    need_day(day)
    return _idle_in(office, plan, order_for(office, plan, day))


def ever_idle(office, plan):
    """The list, ascending, of the numbers that idle_steps tells for each starting day."""
    need_plan(office, plan)
    idle = [_idle_in(office, plan, order) for order in nearest_orders(office, plan)]
    return [number for number in range(len(plan)) if all([number in numbers for numbers in idle])]


def _idle_in(office, plan, order):
    """As idle_steps, for the numbers of all steps in the order in which they are done."""
    looks = looks_along(office, plan, order)
    others = [number for number in range(len(plan)) if number not in looks]
    return [number for number in others if looks_along(office, plan, _without(order, (number,))) == looks]


def _without(order, cut):
    return tuple([number for number in order if number not in cut])


def _need_watched(office, plan, person, path, source):
    need_person(office[0], person)
    need_path(path)
    need_source(office, plan, path, source)
