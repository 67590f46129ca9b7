"""The errors of the package: each stores the one value that it is about."""


class PressError(ValueError):
    """The base of all errors of the package."""

    def __init__(self, value):
        self.value = value


class InvalidName(PressError):
    """A string that is no name; the value is the string."""


class DoubleName(PressError):
    """A name that stood before; the value is the name."""


class UnknownButton(PressError):
    """A button that is none, or none that is usable; the value is the button."""


class UnknownLamp(PressError):
    """A lamp that the device does not have; the value is the lamp."""


class InvalidStep(PressError):
    """A step to no state of the device; the value is the tuple of the state and the button."""


class InvalidState(PressError):
    """A number that is no state here; the value is the number."""


class InvalidBelief(PressError):
    """A list that is no belief of the case; the value is a copy of the list."""


class InvalidGoal(PressError):
    """A tuple that is no goal of the case; the value is an equal tuple."""


class Harmful(PressError):
    """A press that does harm; the value is its index in the row, or its button."""


class UnlikeDevices(PressError):
    """Devices with other buttons or lamps; the value is the index of the first such one."""


class WrongPlan(PressError):
    """A plan that cannot go on; the value is the number of the presses done before."""


class ImpossibleAnswer(PressError):
    """An answer that cannot be; the value is a copy of the answer."""


class NoPlan(PressError):
    """A goal that is out of reach; the value is the button that puts it there, or a closed list."""


class NothingToUndo(PressError):
    """A search without presses; the value is 0."""


class Unreadable(PressError):
    """A text of nothing; the value is the text."""
