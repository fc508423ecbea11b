"""The errors of the package, each with what it tells as attributes."""


class SaveError(ValueError):
    """The base of all errors but those of a lookup."""


class BadText(SaveError):
    """A value is not the text of a game: line is the first line at fault, or None."""

    def __init__(self, line):
        self.line = line


class BadGame(SaveError):
    """A value is not a game: error tells where and why."""

    def __init__(self, error):
        self.error = error


class BadPlan(SaveError):
    """A value is not a plan of the game: error tells where and why."""

    def __init__(self, error):
        self.error = error


class BadWorld(SaveError):
    """A value is not a world of the game."""

    def __init__(self, world):
        self.world = world


class BadDepths(SaveError):
    """Two values are not a least and a greatest depth."""


class Unsafe(SaveError):
    """A plan is not safe at the depth, the least such one."""

    def __init__(self, depth):
        self.depth = depth


class Busy(SaveError):
    """A bench is edited while a watch of it runs."""


class TooManyEdits(SaveError):
    """No further edit can stand."""


class NothingToUndo(SaveError):
    """No edit stands."""


class NothingToRedo(SaveError):
    """No edit was removed that could be put in its place again."""


class BadEdits(SaveError):
    """A value is not a list or tuple of edits, or too long."""


class BadEdit(SaveError):
    """The item with this index does not tell an edit."""

    def __init__(self, index):
        self.index = index


class Rejected(SaveError):
    """The item with this index could not be done."""

    def __init__(self, index):
        self.index = index


class NoField(LookupError):
    """A value is not a field of the game."""

    def __init__(self, field):
        self.field = field


class NoVersion(LookupError):
    """A value is not a version of the bench."""

    def __init__(self, version):
        self.version = version
