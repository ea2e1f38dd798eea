"""The errors of the package."""


class RightsError(ValueError):
    """What all errors of this package are derived from."""


class InvalidNumber(RightsError):
    """An argument that has to be a Boolean is none."""

    def __init__(self, value=None):
        self.value = value


class InvalidList(RightsError):
    """An argument that has to be a list is none, or does not fit as a list."""

    def __init__(self, value=None):
        self.value = value


class InvalidItem(RightsError):
    """An item of a list, or an argument that a point treats like one, does not fit."""

    def __init__(self, value=None):
        self.value = value


class InvalidWord(RightsError):
    """An argument that has to be one of the words of steps is none."""

    def __init__(self, value=None):
        self.value = value


class InvalidProgram(RightsError):
    """An argument that has to be a program is none, or does not fit."""

    def __init__(self, value=None):
        self.value = value


class InvalidPlace(RightsError):
    """An argument that has to be a place is none, or is that of another step."""

    def __init__(self, value=None):
        self.value = value


class InvalidRun(RightsError):
    """An argument that has to be a run is none, or ends otherwise."""

    def __init__(self, value=None):
        self.value = value


class InvalidText(RightsError):
    """An argument that has to be the text of a program is none."""

    def __init__(self, value=None):
        self.value = value


class InvalidName(RightsError):
    """An argument that has to be a name is none."""

    def __init__(self, name=None):
        self.name = name


class TakenName(RightsError):
    """An argument is a name that is in use already."""

    def __init__(self, name=None):
        self.name = name


class UnknownName(RightsError):
    """An argument that has to be a known name is none."""

    def __init__(self, name=None):
        self.name = name


class NothingToUndo(RightsError):
    """There is no deed or step left to undo."""
