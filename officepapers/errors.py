"""The errors of the package: one class for each kind, all of them directly under PaperError."""


class PaperError(ValueError):
    """Any error of the package."""


class BadDay(PaperError):
    """What stands for a day is no integer from -10 ** 15 to 10 ** 15."""


class BadCalendar(PaperError):
    """What stands for a calendar is none."""


class BadNumber(PaperError):
    """What stands for a number, a count or a number of times is none of those allowed."""


class BadBook(PaperError):
    """What stands for a book is none."""


class BadRoute(PaperError):
    """What stands for a route is none."""


class NoName(PaperError):
    """A route has a name that is not in the book: the first such name of the route."""

    def __init__(self, name):
        super().__init__(f"the book has no calendar of the name {name}")
        self.name = name


class BadScheme(PaperError):
    """What stands for a scheme is none."""


class BadCode(PaperError):
    """What stands for a code is none of its scheme."""


class NotRight(PaperError):
    """A code is not right, or no code is."""


class BadGap(PaperError):
    """What stands for a gap is none of its scheme."""


class BadKind(PaperError):
    """What stands for a kind of slip is none."""


class BadRegister(PaperError):
    """What stands for the right codes taken together is no such tuple."""


class BadSize(PaperError):
    """What stands for a size is none."""


class BadPath(PaperError):
    """What stands for a path is none."""


class BadScript(PaperError):
    """What stands for a script is none that is allowed there."""


class BadContents(PaperError):
    """What stands for first contents is none."""


class BadFolder(PaperError):
    """What stands for a folder is none."""


class BadSource(PaperError):
    """What stands for a source is none."""


class BadReports(PaperError):
    """What stands for reports is none."""


class BadRow(PaperError):
    """What stands for a row of folders is none."""


class BadHouse(PaperError):
    """What stands for a house is none."""


class BadMode(PaperError):
    """What stands for a mode is none."""


class BadState(PaperError):
    """What stands for a state is none of its house."""


class BadPerson(PaperError):
    """What stands for a person is none."""


class BadDeed(PaperError):
    """What stands for a deed is none that is allowed there."""


class BadOffice(PaperError):
    """What stands for an office is none."""


class BadPlan(PaperError):
    """What stands for a plan is none of its office."""


class BadStep(PaperError):
    """What stands for the number of a step is none that is allowed there."""


class BadStretch(PaperError):
    """The second day of a stretch is too early or too late."""


class BadMoment(PaperError):
    """What stands for a moment is none of its plan."""


class BadOrder(PaperError):
    """What stands for an order is none of its plan."""


class BadKeep(PaperError):
    """What stands for a keep is none of its plan."""


class BadPlace(PaperError):
    """What stands for a place in a log is none."""


class NothingToUndo(PaperError):
    """No wait, do or look is in force."""


class Full(PaperError):
    """As many entries are in force as may be."""


class TooMany(PaperError):
    """What would come of it has more parts than are allowed."""


class BadText(PaperError):
    """A text is not of its form: the place of the first part of it that is not."""

    def __init__(self, place):
        super().__init__(f"the text is not as it has to be at the place {place}")
        self.place = place


class BadCommand(PaperError):
    """What stands for a row of the desk is none."""
