"""Copies: whose paper stands in a folder after the deeds of a script, whatever the folders held at first."""

from officepapers.checks import (
    is_folder,
    is_pair,
    is_path,
    is_whole,
    is_word,
    need_contents,
    need_folder,
    need_path,
    need_size,
)
from officepapers.errors import BadScript, BadSource

MOST_DEEDS = 30
COPIES = ("over", "under")
CHANGES = ("write", "throw")


def is_script(size, thing):
    """Whether any object is a script for so many folders."""
    need_size(size)
    return isinstance(thing, tuple) and len(thing) <= MOST_DEEDS and all([is_paper_deed(size, deed) for deed in thing])


def lists_of(size, script, path):
    """The tuple of the lists of sources of all folders for the path after the script."""
    _need_work(size, script, path)
    return lists_through(size, script, path)[-1]


def papers_at(size, script, path, contents):
    """The tuple, for each folder, of the source that stands at the path after the script, None if none does."""
    _need_work(size, script, path)
    need_contents(size, contents)
    return papers_of(lists_through(size, script, path)[-1], contents)


def lists_along(size, script, path):
    """The list of the tuples of lists for the path: at first, and after each deed of the script."""
    _need_work(size, script, path)
    return lists_through(size, script, path)


def contents_for(size, script, path, folder, source):
    """First contents for which the source stands in the folder after the script; None if there are none."""
    _need_work(size, script, path)
    need_folder(size, folder)
    _need_source(size, script, path, source)
    return contents_of(source) if source in lists_through(size, script, path)[-1][folder] else None


def trail(size, script, path, folder, source):
    """First contents, and a trail of the source to the folder with as few copies as any; None if there is no trail."""
    _need_work(size, script, path)
    need_folder(size, folder)
    _need_source(size, script, path, source)
    along = lists_through(size, script, path)
    if source not in along[-1][folder]:
        return None
    # Without any other first paper the source stands wherever it may stand, and each copy that may copy it does.
    contents = contents_of(source)
    standing = [papers_of(lists, contents) for lists in along]
    return contents, least_trail(script, standing, folder, source)


def trail_holds(size, script, path, folder, source, contents, thing):
    """Whether any object is the tuple of places of a trail of the source to the folder for the first contents."""
    _need_work(size, script, path)
    need_folder(size, folder)
    _need_source(size, script, path, source)
    need_contents(size, contents)
    if not (isinstance(thing, tuple) and all([is_whole(place, 0, len(script) - 1) for place in thing])):
        return False
    standing = [papers_of(lists, contents) for lists in lists_through(size, script, path)]
    return is_trail(script, standing, folder, source, thing)


def is_paper_deed(size, thing):
    """Whether any object is a paper deed for so many folders."""
    if not (isinstance(thing, tuple) and len(thing) == 3 and is_folder(size, thing[1])):
        return False
    if is_word(thing[0], COPIES):
        return is_folder(size, thing[2]) and thing[1] != thing[2]
    return is_word(thing[0], CHANGES) and is_path(thing[2])


def is_source(size, script, path, thing):
    """Whether any object is a source for the path, where the script may have other deeds than paper deeds, too."""
    if not is_pair(thing):
        return False
    word, number = thing
    if is_word(word, ("first",)):
        return is_folder(size, number)
    return (
        is_word(word, ("written",))
        and is_whole(number, 0, len(script) - 1)
        and script[number][0] == "write"
        and script[number][2] == path
    )


def first_lists(size):
    """The tuple of the lists of so many folders at first: each has its own first paper alone."""
    return tuple([(("first", folder),) for folder in range(size)])


def lists_behind(lists, deed, path, place):
    """The tuple of the lists for the path behind the deed; what it writes is told as written at the place."""
    word, folder, target = deed
    if word == "over":
        return _put(lists, target, _laid_over(lists[folder], lists[target]))
    if word == "under":
        return _put(lists, target, _laid_over(lists[target], lists[folder]))
    if target != path:
        return lists
    return _put(lists, folder, (("written", place),) if word == "write" else ())


def lists_through(size, script, path):
    """As lists_along, for arguments that are known to be right."""
    along = [first_lists(size)]
    for place, deed in enumerate(script):
        along.append(lists_behind(along[-1], deed, path, place))
    return along


def first_there(sources, contents):
    """The first of the sources that there is for these first contents, None if there is none."""
    for source in sources:
        if source[0] == "written" or source[1] in contents:
            return source
    return None


def papers_of(lists, contents):
    """The tuple, for each list, of its first source that there is for these first contents, None if there is none."""
    return tuple([first_there(sources, contents) for sources in lists])


def contents_of(source):
    """First contents of nothing but the source itself."""
    return (source[1],) if source[0] == "first" else ()


def least_trail(script, standing, folder, source):
    """A trail with as few copies as any of the source to the folder in which it stands behind the script.

    Standing is the list of what stands in the folders at first and behind each deed.
    """
    here, moment = _start_of(script, source)
    trails = {here: ()}
    for place in range(moment, len(script)):
        _, copied, target = script[place]
        longer = {other: trails[other] for other in trails if standing[place + 1][other] == source}
        if copied in trails and _copies(script[place], standing[place]):
            places = trails[copied] + (place,)
            if target not in longer or len(places) < len(longer[target]):
                longer[target] = places
        trails = longer
    return trails[folder]


def is_trail(script, standing, folder, source, places):
    """Whether these places of the script are a trail of the source to the folder.

    Standing is the list of what stands in the folders at first and behind each deed.
    """
    here, moment = _start_of(script, source)
    for place in places:
        _, copied, target = script[place]
        if place < moment or copied != here or not _copies(script[place], standing[place]):
            return False
        if not _stands_on(standing[moment:place + 1], here, source):
            return False
        here, moment = target, place + 1
    return here == folder and _stands_on(standing[moment:], here, source)


def _put(lists, folder, sources):
    return lists[:folder] + (sources,) + lists[folder + 1:]


def _laid_over(ahead, behind):
    if ahead and ahead[-1][0] == "written":
        return ahead
    return ahead + tuple([source for source in behind if source not in ahead])


def _start_of(script, source):
    """The folder in which the source stands first, and how many deeds are done then."""
    word, number = source
    return (number, 0) if word == "first" else (script[number][1], number + 1)


def _copies(deed, papers):
    """Whether the deed copies a paper of its folder, papers being what stands in the folders right ahead of it."""
    word, _, target = deed
    return word == "over" or (word == "under" and papers[target] is None)


def _stands_on(standing, folder, source):
    return all([papers[folder] == source for papers in standing])


def _need_work(size, script, path):
    # is_script looks at the size, too.
    if not is_script(size, script):
        raise BadScript(f"a script is a tuple of at most {MOST_DEEDS} paper deeds")
    need_path(path)


def _need_source(size, script, path, thing):
    if not is_source(size, script, path, thing):
        raise BadSource("a source is the first paper of a folder, or one written at the path by the script")
