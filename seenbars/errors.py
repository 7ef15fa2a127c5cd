"""The errors of the package."""


class GateError(ValueError):
    """The base class of all errors of the package."""

    def __init__(self, value):
        ValueError.__init__(self, value)
        self.value = value


class InvalidName(GateError):
    """A string that should be a name is none."""


class InvalidStep(GateError):
    """A step leads to something that is not an index."""


class InvalidFinal(GateError):
    """A final state is not an index."""


class UnknownEvent(GateError):
    """An event is not an event of the plant."""


class NotPossible(GateError):
    """An event cannot be done."""


class BrokenRule(GateError):
    """An event breaks the rule."""


class InvalidPosition(GateError):
    """A tuple is not a position of the task."""


class InvalidBelief(GateError):
    """A list is not a belief of positions of the task."""


class InvalidChoice(GateError):
    """A list is not a choice that may be made."""


class InvalidEvent(GateError):
    """An event is not visible, or is in the choice."""


class NotBlockable(GateError):
    """A keeper blocks an event that is not blockable."""


class NotVisible(GateError):
    """A blockable event is not visible."""


class UnknownGoal(GateError):
    """A string is none of the goals."""


class NotExact(GateError):
    """No gatekeepers pass exactly the allowed runs."""


class NoGatekeeper(GateError):
    """There is no gatekeeper with the goal."""


class Blocked(GateError):
    """An event is blocked now."""


class NothingToUndo(GateError):
    """There is nothing that could be taken back."""


class Unreadable(GateError):
    """Nothing has this text."""
