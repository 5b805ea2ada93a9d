"""An office that goes on: what is done day by day, and taken back."""

from officepapers.checks import is_folder, is_pair, is_whole, need_day, need_folder, need_path
from officepapers.errors import BadDeed, BadPlace, Full, NothingToUndo, TooMany
from officepapers.houses import is_person, need_person, sees_in, size_of
from officepapers.labels import typed_writes
from officepapers.moments import first_world, sources_seen, world_behind
from officepapers.plans import MOST_STEPS, is_deed, need_office
from officepapers.routes import MOST_LETTERS, calendars_for, move, need_route, reduce_letters
from officepapers.schemes import need_code, need_scheme
from officepapers.sight import sights_along

MOST_ENTRIES = 40


class Live:
    """An office with a present day, the rights and the papers as they are now, and a log of what led there."""

    def __init__(self, office, day):
        need_office(office)
        need_day(day)
        self._office = office
        self._log = []
        # The present day and the tuple of the state and the lists, at first and behind each entry of the log.
        self._days = [day]
        self._worlds = [first_world(office)]

    @property
    def day(self):
        """The present day."""
        return self._days[-1]

    @property
    def office(self):
        """The office."""
        return self._office

    @property
    def starting_day(self):
        """The day on which nothing had been done."""
        return self._days[0]

    def wait(self, *letters):
        """Move the present day by the route of these letters, and return it."""
        need_route(letters)
        calendars = calendars_for(self._office[2], letters)
        self._note(("wait", letters), move(calendars, letters, self._days[-1]), self._worlds[-1])
        return self._days[-1]

    def do(self, deed):
        """Do the right deed or the paper deed on the present day."""
        if not is_deed(self._office[0], deed) or deed[0] == "look":
            raise BadDeed("only a right deed or a paper deed of the office can be done")
        day = self._days[-1]
        place = len(self._deeds())
        self._note(("do", deed, day), day, world_behind(self._office, self._worlds[-1], deed, place))

    def look(self, person, folder, path):
        """The tuple of the sources in the folder for the path; None if the person does not see it now."""
        house = self._office[0]
        need_person(house, person)
        need_folder(size_of(house), folder)
        need_path(path)
        look = ("look", person, folder, path)
        sources = sources_seen(self._office, self._worlds[-1], look)
        day = self._days[-1]
        self._note((*look, sources, day), day, self._worlds[-1])
        return sources

    def undo(self):
        """Take back the last wait, do or look in force."""
        if not self._log:
            raise NothingToUndo("no wait, do or look is in force")
        self._log.pop()
        self._days.pop()
        self._worlds.pop()

    def lists(self, path):
        """The tuple of the present lists of all folders for the path."""
        need_path(path)
        _, lists = self._worlds[-1]
        return lists[path]

    def state(self):
        """The present state."""
        state, _ = self._worlds[-1]
        return state

    def seen(self, person, path):
        """The list, ascending, of all tuples of a source, a place and a folder that the person could have seen."""
        need_person(self._office[0], person)
        need_path(path)
        behind = [self._worlds[at + 1] for at, entry in enumerate(self._log) if entry[0] != "wait"]
        return sights_along(self._office, [self._worlds[0], *behind], person, path)

    def find(self, scheme, code):
        """The list, ascending, of the places of papers that the code may tell, and where they stand first now."""
        need_scheme(scheme)
        need_code(scheme, code)
        deeds = self._deeds()
        writes = [place for place, deed in enumerate(deeds) if deed[0] == "write"]
        _, lists = self._worlds[-1]
        return [
            (place, folder)
            for place in typed_writes(scheme, writes, code)
            for folder, sources in enumerate(lists[deeds[place][2]])
            if sources[:1] == (("written", place),)
        ]

    def log(self):
        """The list of the entries in force."""
        return list(self._log)

    def plan(self):
        """The plan of the do and look entries, each with the reduced route of all that was waited ahead of it."""
        steps = []
        letters = []
        for entry in self._log:
            if entry[0] == "wait":
                letters.extend(entry[1])
            else:
                steps.append((_deed_of(entry), reduce_letters(letters)))
        if len(steps) > MOST_STEPS or any([len(route) > MOST_LETTERS for _, route in steps]):
            raise TooMany(f"a plan has at most {MOST_STEPS} steps, each with a route of at most {MOST_LETTERS} letters")
        return tuple(steps)

    def with_start(self, day):
        """Another Live of the same office, in which the same is done one by one from another starting day on."""
        other = Live(self._office, day)
        for entry in self.log():
            if entry[0] == "wait":
                letters = entry[1]
                other.wait(*letters)
            elif entry[0] == "do":
                other.do(entry[1])
            else:
                other.look(entry[1], entry[2], entry[3])
        return other

    def copy(self):
        """A Live that is equal to this one and has the same log."""
        other = live_from(self._office, self._days[0])
        other._log = list(self._log)
        other._days = list(self._days)
        other._worlds = list(self._worlds)
        return other

    def __len__(self):
        return len(self._log)

    def __getitem__(self, at):
        if not is_whole(at, 0, len(self._log) - 1):
            raise BadPlace("a place is an integer from 0 to below the number of entries in force")
        return self._log[at]

    def __iter__(self):
        return iter(self._log)

    def __contains__(self, thing):
        house, mode, _ = self._office
        state, _ = self._worlds[-1]
        return (
            is_pair(thing)
            and is_person(house, thing[0])
            and is_folder(size_of(house), thing[1])
            and sees_in(mode, state, thing[0], thing[1])
        )

    def __eq__(self, other):
        return (
            isinstance(other, Live)
            and self._office == other._office
            and self._days[0] == other._days[0]
            and self._without_looks() == other._without_looks()
        )

    def _note(self, entry, day, world):
        if len(self._log) == MOST_ENTRIES:
            raise Full(f"no more than {MOST_ENTRIES} entries are in force")
        self._log.append(entry)
        self._days.append(day)
        self._worlds.append(world)

    def _deeds(self):
        """The list of the deeds done and the looks in force: the places in it tell the written sources."""
        return [_deed_of(entry) for entry in self._log if entry[0] != "wait"]

    def _without_looks(self):
        return [entry for entry in self._log if entry[0] != "look"]


def live_from(office, day):
    """A Live of the office from a day of any size on, both known to be right."""
    live = Live(office, 0)
    live._days = [day]
    return live


def _deed_of(entry):
    """The deed or the look of an entry that is no wait."""
    return entry[1] if entry[0] == "do" else entry[:4]
