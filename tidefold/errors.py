"""The errors of the package."""


class FlowError(ValueError):
    """The base class of all errors."""


class PlanError(FlowError):
    """The text of a plan has an error at a place."""

    def __init__(self, place, message):
        FlowError.__init__(self, f"{message} at {place}")
        self.place = place
        self.message = message


class NoSuchSource(FlowError):
    """A plan has no source of this name."""


class LateRow(FlowError):
    """A row has a time before the mark of its source."""


class NotThere(FlowError):
    """A row that is taken away is not there."""


class MarkGoesBack(FlowError):
    """A mark is moved to a time before the one that it has."""
