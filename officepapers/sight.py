"""Sight: who can come to see which papers, and by what chain of copies and rights."""

from officepapers.checks import is_contents, is_folder, is_whole, need_contents, need_day, need_path
from officepapers.copies import contents_of, first_there, is_source, is_trail, least_trail, lists_through, papers_of
from officepapers.errors import BadSource
from officepapers.houses import need_person, sees_in, size_of
from officepapers.moments import looks_along, script_of, worlds_along
from officepapers.plans import need_look, need_plan, order_for
from officepapers.reasons import find_reason, is_reason


def sights(office, plan, day, person, path):
    """The list, ascending, of all tuples of a source, a moment and a folder in which the person can see it then."""
    _need_watch(office, plan, day, person, path)
    worlds = worlds_along(office, plan, order_for(office, plan, day))
    return sights_along(office, worlds, person, path)


def sure_sights(office, plan, day, person, path):
    """Those of the sights in which the source stands first in the list of the folder."""
    _need_watch(office, plan, day, person, path)
    worlds = worlds_along(office, plan, order_for(office, plan, day))
    views = _views_along(office, worlds, person, path)
    return sorted([(sources[0], moment, folder) for moment, folder, sources in views if sources])


def alike_contents(office, plan, day, person, path, contents):
    """The list, ascending, of all first contents that show the person the same as these ones, at each moment."""
    _need_watch(office, plan, day, person, path)
    size = size_of(office[0])
    need_contents(size, contents)
    worlds = worlds_along(office, plan, order_for(office, plan, day))
    lists = [sources for _, _, sources in _views_along(office, worlds, person, path)]
    shown = papers_of(lists, contents)
    return [other for other in _all_contents(size) if papers_of(lists, other) == shown]


def can_see(office, plan, day, person, path, source):
    """Whether the person can come to see the source for the starting day."""
    _need_watch(office, plan, day, person, path)
    need_source(office, plan, path, source)
    return sees_source(office, plan, order_for(office, plan, day), person, path, source)


def look_sources(office, plan, day, number):
    """The tuple of the sources in the looked folder when the look comes; None if the person does not see it then."""
    _need_looking(office, plan, day, number)
    return looks_along(office, plan, order_for(office, plan, day))[number]


def look_shows(office, plan, day, number, contents):
    """The source that the look shows for the first contents; None if there is none or the folder is not seen."""
    _need_looking(office, plan, day, number)
    need_contents(size_of(office[0]), contents)
    sources = looks_along(office, plan, order_for(office, plan, day))[number]
    return None if sources is None else first_there(sources, contents)


def sight_paper(office, plan, day, person, path, source):
    """A sight paper with the least moment, for the person and the source; None if the person cannot come to see it.

    It is a tuple of the moment, the folder, first contents, the trail by numbers of steps, and the reason.
    """
    _need_watch(office, plan, day, person, path)
    need_source(office, plan, path, source)
    order = order_for(office, plan, day)
    worlds = worlds_along(office, plan, order)
    for moment, folder, sources in _views_along(office, worlds, person, path):
        if source in sources:
            contents = contents_of(source)
            steps = _trail_of(office, plan, order[:moment], path, folder, source, contents)
            state, _ = worlds[moment]
            return moment, folder, contents, steps, find_reason(office[1], state, person, folder)
    return None


def sight_holds(office, plan, day, person, path, source, thing):
    """Whether any object is a sight paper, of whatever moment, for the person and the source."""
    _need_watch(office, plan, day, person, path)
    need_source(office, plan, path, source)
    if not (isinstance(thing, tuple) and len(thing) == 5):
        return False
    moment, folder, contents, steps, reason = thing
    size = size_of(office[0])
    if not (is_whole(moment, 0, len(plan)) and is_folder(size, folder) and is_contents(size, contents)):
        return False
    numbers = order_for(office, plan, day)[:moment]
    state, _ = worlds_along(office, plan, numbers)[-1]
    return (
        _is_trail_of(office, plan, numbers, path, folder, source, contents, steps)
        and is_reason(office[0], office[1], state, person, folder, reason)
        and reason[0] == "sees"
    )


def sights_along(office, worlds, person, path):
    """As sights, for the list of the tuples of a state and lists at each moment."""
    views = _views_along(office, worlds, person, path)
    return sorted([(source, moment, folder) for moment, folder, sources in views for source in sources])


def sees_source(office, plan, numbers, person, path, source):
    """Whether the person can come to see the source if the steps with these numbers are done, in this order."""
    views = _views_along(office, worlds_along(office, plan, numbers), person, path)
    return any([source in sources for _, _, sources in views])


def need_source(office, plan, path, thing):
    if not is_source(size_of(office[0]), [deed for deed, _ in plan], path, thing):
        raise BadSource("a source is the first paper of a folder, or one written at the path by a step of the plan")


def _views_along(office, worlds, person, path):
    """The list of the tuples of a moment, a folder that the person sees then, and its list for the path."""
    return [
        (moment, folder, lists[path][folder])
        for moment, (state, lists) in enumerate(worlds)
        for folder in range(size_of(office[0]))
        if sees_in(office[1], state, person, folder)
    ]


def _all_contents(size):
    """The list, ascending, of all first contents."""
    found = [()]
    for folder in range(size):
        found = found + [contents + (folder,) for contents in found]
    return sorted(found)


def _standing_after(office, plan, numbers, path, contents):
    """The script of the steps with these numbers, their numbers, and what stands at first and behind each deed."""
    script, places = script_of(plan, numbers)
    along = lists_through(size_of(office[0]), script, path)
    return script, places, [papers_of(lists, contents) for lists in along]


def _trail_of(office, plan, numbers, path, folder, source, contents):
    """A trail, told by numbers of steps, of the source to the folder in which it stands behind these steps."""
    script, places, standing = _standing_after(office, plan, numbers, path, contents)
    trail = least_trail(script, standing, folder, _at_place(source, places))
    return tuple([places[place] for place in trail])


def _is_trail_of(office, plan, numbers, path, folder, source, contents, thing):
    """Whether any object is a trail, told by numbers of steps, of the source to the folder behind these steps."""
    script, places, standing = _standing_after(office, plan, numbers, path, contents)
    if not (isinstance(thing, tuple) and all([is_whole(step, 0, len(plan) - 1) and step in places for step in thing])):
        return False
    if source[0] == "written" and source[1] not in places:
        return False
    trail = tuple([places.index(step) for step in thing])
    return is_trail(script, standing, folder, _at_place(source, places), trail)


def _at_place(source, places):
    """The source, a written one told by the place of its step among the places."""
    word, number = source
    return source if word == "first" else (word, places.index(number))


def _need_watch(office, plan, day, person, path):
    need_plan(office, plan)
    need_day(day)
    need_person(office[0], person)
    need_path(path)


def _need_looking(office, plan, day, number):
    need_plan(office, plan)
    need_day(day)
    need_look(plan, number)
