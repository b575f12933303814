"""The errors of leanbundle: one class for each kind of failure."""


class BundleError(ValueError):
    """Any error of leanbundle."""


class BadProgram(BundleError):
    """It is not a program."""


class BadLot(BundleError):
    """It is not a lot of the program."""


class BadLayout(BundleError):
    """It is not a layout of the program."""


class BadPlace(BundleError):
    """It is not a place of the kind that is asked for."""


class BadRun(BundleError):
    """It is not a run of the program; `place` is the index of the first wrong step, or -1."""

    def __init__(self, place):
        super().__init__(f"not a run of the program, at {place}")
        self.place = place


class BadMade(BundleError):
    """It is nothing that can be made of the program."""


class BadNeed(BundleError):
    """It is not a need of the row."""


class TooMany(BundleError):
    """There is more to look at than is let."""


class BadOptions(BundleError):
    """They are not options of the tool."""


class ManyDoors(BundleError):
    """The program has more than one door."""


class BadStep(BundleError):
    """It is not a step of the program."""


class BadPart(BundleError):
    """It is not the number of a part."""


class BadValue(BundleError):
    """It is neither True nor False."""


class NothingToUndo(BundleError):
    """There is no change to take back."""


class BadText(BundleError):
    """The text is not of the form; `line` is the index of the first wrong line."""

    def __init__(self, line):
        super().__init__(f"not a text of the form, at line {line}")
        self.line = line


class BadCommand(BundleError):
    """It is not a row that a desk answers."""
