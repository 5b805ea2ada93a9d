"""Keeping: whether papers are kept to their due days, and what would spare or save them."""

from officepapers.checks import is_pair, is_rising, is_whole, need_day
from officepapers.copies import first_lists, lists_behind
from officepapers.errors import BadKeep, BadStep
from officepapers.houses import size_of
from officepapers.moments import is_with_papers, worlds_along
from officepapers.plans import cuts_of, history_for, is_route_of, need_plan, need_write, order_for, writes_of
from officepapers.routes import move, move_back
from officepapers.starts import telling_days


def due_day(office, plan, keep, number, day):
    """The day until which the paper written by the step with this number is to be kept."""
    _need_kept(office, plan, keep, number, day)
    return _due_for(office, plan, keep, number, day)


def lost_papers(office, plan, keep, day):
    """The list, ascending, of the tuples of the number of a lost paper and the number of the step that lost it."""
    _need_keep(office, plan, keep)
    need_day(day)
    return _losses(office, plan, keep, day)


def keep_word(office, plan, keep):
    """The tuple of a word and the day nearest to 0 for which a paper of the keep is lost, None if there is none.

    The word is "always" if all are kept for all starting days, else "never" or "sometimes".
    """
    _need_keep(office, plan, keep)
    return _word_of(office, plan, keep)


def ever_kept(office, plan, keep):
    """The list, ascending, of the tuples of each number in the keep and the word for this paper alone."""
    _need_keep(office, plan, keep)
    return [(pair[0], _word_of(office, plan, (pair,))[0]) for pair in keep]


def latest_for(office, plan, keep, number, day):
    """The latest starting day for which the paper's due day is the day or an earlier one."""
    _need_kept(office, plan, keep, number, day)
    return move_back(dict(office[2]), plan[number][1] + dict(keep)[number], day)


def whereabouts(office, plan, day, number):
    """The list, for each moment behind the writing, of the folders in whose lists the paper stands first, and at all.

    Each is a tuple of the two tuples of folders, ascending.
    """
    need_plan(office, plan)
    need_day(day)
    need_write(plan, number)
    order = order_for(office, plan, day)
    worlds = worlds_along(office, plan, order)[order.index(number) + 1:]
    path = plan[number][0][2]
    return [_folders_with(("written", number), lists[path]) for _, lists in worlds]


def spared_by(office, plan, keep, number, day):
    """The list, ascending, of the tuples of as few steps as any without which the paper is not lost.

    [()] if it is not lost anyhow, [] if more than two steps would have to be left out.
    """
    _need_kept(office, plan, keep, number, day)
    due = _due_for(office, plan, keep, number, day)
    done = _done_for(office, plan, day)
    for cuts in cuts_of(plan, number):
        found = [cut for cut in cuts if _loss_in(office, _without(done, cut), number, due) is None]
        if found:
            return found
    return []


def saved_by(office, plan, keep, number, day):
    """The list, ascending, of all moments, sources and targets of an "over" that keeps the paper from being lost."""
    _need_kept(office, plan, keep, number, day)
    due = _due_for(office, plan, keep, number, day)
    done = _done_for(office, plan, day)
    if _loss_in(office, done, number, due) is None:
        return []
    folders = range(size_of(office[0]))
    first = [step for _, step, _ in done].index(number) + 1
    overs = [
        (moment, source, target)
        for moment in range(first, len(done) + 1) for source in folders for target in folders if source != target
    ]
    return [over for over in overs if _loss_in(office, _with_over(done, over), number, due) is None]


def _due_for(office, plan, keep, number, day):
    return move(dict(office[2]), plan[number][1] + dict(keep)[number], day)


def _done_for(office, plan, day):
    """The list of the tuples of a day, a number and a deed of all steps, in the order in which they are done."""
    return [(at, number, plan[number][0]) for at, number in history_for(office, plan, day)]


def _without(done, cut):
    return [step for step in done if step[1] not in cut]


def _with_over(done, over):
    """What is done, with a further "over" right behind a moment, on the day of the last step by then."""
    moment, source, target = over
    return done[:moment] + [(done[moment - 1][0], None, ("over", source, target))] + done[moment:]


def _loss_in(office, done, number, due):
    """The least moment, by the due day, at which the paper is not kept any more; None if it is not lost."""
    source = ("written", number)
    path = [deed[2] for _, step, deed in done if step == number][0]
    lists = first_lists(size_of(office[0]))
    written = False
    for at, (day, step, deed) in enumerate(done):
        if is_with_papers(deed):
            lists = lists_behind(lists, deed, path, step)
        written = written or step == number
        if written and day <= due and not any([sources[:1] == (source,) for sources in lists]):
            return at + 1
    return None


def _losses(office, plan, keep, day):
    """As lost_papers, for a day of any size and other arguments that are known to be right."""
    done = _done_for(office, plan, day)
    lost = []
    for number, _ in keep:
        moment = _loss_in(office, done, number, _due_for(office, plan, keep, number, day))
        if moment is not None:
            lost.append((number, done[moment - 1][1]))
    return lost


def _word_of(office, plan, keep):
    """As keep_word, for arguments that are known to be right."""
    nearest = {}
    for day in telling_days():
        lost = len(_losses(office, plan, keep, day)) > 0
        if lost not in nearest:
            nearest[lost] = day
    if True not in nearest:
        return "always", None
    return ("sometimes" if False in nearest else "never"), nearest[True]


def _folders_with(source, lists):
    """The tuple of the folders in whose lists the source stands first, and that of those in which it stands at all."""
    sure = [folder for folder, sources in enumerate(lists) if sources[:1] == (source,)]
    maybe = [folder for folder, sources in enumerate(lists) if source in sources]
    return tuple(sure), tuple(maybe)


def _need_keep(office, plan, thing):
    need_plan(office, plan)
    if not (
        isinstance(thing, tuple)
        and all([_is_kept_paper(office, plan, pair) for pair in thing])
        and is_rising([pair[0] for pair in thing])
    ):
        raise BadKeep("a keep is a tuple, ascending, of tuples of the number of a writing and a route")


def _is_kept_paper(office, plan, thing):
    return (
        is_pair(thing)
        and is_whole(thing[0], 0, len(plan) - 1)
        and thing[0] in writes_of(plan)
        and is_route_of(office[2], thing[1])
    )


def _need_kept(office, plan, keep, number, day):
    _need_keep(office, plan, keep)
    if not (is_whole(number, 0, len(plan) - 1) and number in dict(keep)):
        raise BadStep("the step has to be one in the keep")
    need_day(day)
