"""Plans: in which order their steps are done, for a starting day and for all of them."""

from officepapers.checks import is_folder, is_pair, is_path, is_whole, is_word, need_day
from officepapers.copies import is_paper_deed
from officepapers.errors import BadOffice, BadOrder, BadPlan, BadStep, BadStretch
from officepapers.houses import is_house, is_mode, is_person, size_of
from officepapers.rights import is_right_deed
from officepapers.routes import is_book, is_route, move, move_back, reduce_letters
from officepapers.spelling import spell
from officepapers.starts import count_told, later_days, telling_days

MOST_STEPS = 8
LONGEST_STRETCH = 400


def is_office(thing):
    """Whether any object is an office."""
    return (
        isinstance(thing, tuple)
        and len(thing) == 3
        and is_house(thing[0])
        and is_mode(thing[1])
        and is_book(thing[2])
    )


def is_plan(office, thing):
    """Whether any object is a plan of the office."""
    need_office(office)
    return (
        isinstance(thing, tuple)
        and len(thing) <= MOST_STEPS
        and all([_is_step(office, step) for step in thing])
    )


def day_of(office, plan, number, day):
    """The day on which the step with this number is done for the starting day."""
    need_plan(office, plan)
    need_step(plan, number)
    need_day(day)
    return move(dict(office[2]), plan[number][1], day)


def history(office, plan, day):
    """The list of the tuples of a day and a number of all steps, in the order in which they are done."""
    need_plan(office, plan)
    need_day(day)
    return history_for(office, plan, day)


def order_at(office, plan, day):
    """The tuple of the numbers of all steps in the order in which they are done for the starting day."""
    need_plan(office, plan)
    need_day(day)
    return order_for(office, plan, day)


def latest_done(office, plan, day):
    """The latest starting day for which all steps are done on the day or earlier."""
    need_plan(office, plan)
    need_day(day)
    calendars = dict(office[2])
    return min([move_back(calendars, route, day) for _, route in plan], default=day)


def stretches(office, plan, first, last):
    """The list of the runs, tuples of a first and a last day and an order, of starting days that have one order."""
    need_plan(office, plan)
    _need_stretch(first, last)
    if last > first + LONGEST_STRETCH:
        raise BadStretch(f"the second day of a stretch is at most {LONGEST_STRETCH} days later")
    runs = []
    for day in range(first, last + 1):
        order = order_for(office, plan, day)
        if runs and runs[-1][2] == order:
            runs[-1] = (runs[-1][0], day, order)
        else:
            runs.append((day, day, order))
    return runs


def next_change(office, plan, day):
    """The first later starting day that has another order than the day; None if there is none."""
    need_plan(office, plan)
    need_day(day)
    order = order_for(office, plan, day)
    for later in later_days(day):
        if order_for(office, plan, later) != order:
            return later
    return None


def orders_ever(office, plan):
    """The list, ascending, of the tuples of each order there ever is and the starting day nearest to 0 that has it."""
    need_plan(office, plan)
    nearest = nearest_orders(office, plan)
    return sorted([(order, nearest[order]) for order in nearest])


def days_with(office, plan, order, first, last):
    """How many starting days from the first to the last one have the order."""
    need_plan(office, plan)
    _need_order(plan, order)
    _need_stretch(first, last)
    told = [(day, count_told(day, first, last)) for day in telling_days()]
    return sum([count for day, count in told if count > 0 and order_for(office, plan, day) == order])


def next_with(office, plan, order, day):
    """The first starting day, not earlier than the day, that has the order; None if there is none."""
    need_plan(office, plan)
    _need_order(plan, order)
    need_day(day)
    for later in later_days(day):
        if order_for(office, plan, later) == order:
            return later
    return None


def ahead_word(office, plan, number, other):
    """Whether the step with the number is done ahead of the other one for all, no or some starting days."""
    need_plan(office, plan)
    _need_two_steps(plan, number, other)
    calendars = dict(office[2])
    found = []
    for day in telling_days():
        ahead = (move(calendars, plan[number][1], day), number) < (move(calendars, plan[other][1], day), other)
        if ahead not in found:
            found.append(ahead)
    if len(found) == 2:
        return "sometimes"
    return "always" if found[0] else "never"


def ahead_anyhow(office, plan, number, other):
    """Whether the step with the number is done ahead of the other one, whatever days are open."""
    need_plan(office, plan)
    _need_two_steps(plan, number, other)
    # Of two steps on one day the one with the greater number comes behind: it is to be earlier by a day.
    route = plan[number][1] + (() if number < other else ("+",))
    return spell(reduce_letters(route), plan[other][1]) is not None


def history_for(office, plan, day):
    """As history, for a day of any size and other arguments that are known to be right."""
    calendars = dict(office[2])
    return sorted([(move(calendars, step[1], day), number) for number, step in enumerate(plan)])


def order_for(office, plan, day):
    """As order_at, for a day of any size and other arguments that are known to be right."""
    return tuple([number for _, number in history_for(office, plan, day)])


def nearest_orders(office, plan):
    """The dict of each order there ever is and the starting day nearest to 0 that has it, near days first."""
    nearest = {}
    for day in telling_days():
        order = order_for(office, plan, day)
        if order not in nearest:
            nearest[order] = day
    return nearest


def writes_of(plan):
    """The list, ascending, of the numbers of the steps that write."""
    return [number for number, (deed, _) in enumerate(plan) if deed[0] == "write"]


def cuts_of(plan, writing):
    """The list of the lists, each ascending, of the tuples of none, one and two numbers of steps but the writing."""
    numbers = [number for number in range(len(plan)) if number != writing]
    pairs = [(number, other) for number in numbers for other in numbers if number < other]
    return [[()], [(number,) for number in numbers], pairs]


def is_deed(house, thing):
    """Whether any object is a deed of an office with the house."""
    return is_right_deed(house, thing) or is_paper_deed(size_of(house), thing) or is_look(house, thing)


def is_look(house, thing):
    """Whether any object is a look of the house."""
    return (
        isinstance(thing, tuple)
        and len(thing) == 4
        and is_word(thing[0], ("look",))
        and is_person(house, thing[1])
        and is_folder(size_of(house), thing[2])
        and is_path(thing[3])
    )


def is_route_of(book, thing):
    """Whether any object is a route with names of the book alone."""
    names = [name for name, _ in book]
    return is_route(thing) and all([letter == "+" or letter in names for letter in thing])


def need_office(thing):
    if not is_office(thing):
        raise BadOffice("an office is a tuple of a house, a mode and a book")


def need_plan(office, thing):
    # is_plan looks at the office, too.
    if not is_plan(office, thing):
        raise BadPlan(f"a plan is a tuple of at most {MOST_STEPS} steps, tuples of a deed and a route of the office")


def need_step(plan, thing):
    if not is_whole(thing, 0, len(plan) - 1):
        raise BadStep("a step is told by its number, an integer from 0 on")


def need_look(plan, thing):
    need_step(plan, thing)
    if plan[thing][0][0] != "look":
        raise BadStep("the step has to be a look")


def need_write(plan, thing):
    need_step(plan, thing)
    if plan[thing][0][0] != "write":
        raise BadStep("the step has to be a writing")


def _is_step(office, thing):
    return is_pair(thing) and is_deed(office[0], thing[0]) and is_route_of(office[2], thing[1])


def _need_two_steps(plan, number, other):
    need_step(plan, number)
    need_step(plan, other)
    if number == other:
        raise BadStep("the two steps are to be unlike")


def _need_order(plan, thing):
    if not (
        isinstance(thing, tuple)
        and all([is_whole(number, 0, len(plan) - 1) for number in thing])
        and sorted(thing) == list(range(len(plan)))
    ):
        raise BadOrder("an order is a tuple of the numbers of all steps, each once")


def _need_stretch(first, last):
    need_day(first)
    need_day(last)
    if last < first:
        raise BadStretch("the second day of a stretch is not earlier than the first one")
