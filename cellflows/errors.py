"""The errors of the package, each one directly below FlowError."""


class FlowError(ValueError):
    """Any error that the package raises."""


class InvalidRule(FlowError):
    """A value that is no rule."""


class InvalidWeight(FlowError):
    """A value that is no weight."""


class InvalidRing(FlowError):
    """A value that is no ring with the right number of signs."""


class InvalidRuns(FlowError):
    """A value that is no runs with the right number of signs."""


class InvalidSigns(FlowError):
    """A value that is no number of signs."""


class InvalidPairs(FlowError):
    """A value that is no list of pairs of a weight and a total."""


class InvalidMean(FlowError):
    """A value that is no mean."""


class InvalidCells(FlowError):
    """A value that is no number of cells, or no number of places."""


class InvalidTicks(FlowError):
    """A value that is no number of ticks, or too great a one."""


class InvalidTotal(FlowError):
    """A value that is no total, or no factor."""


class InvalidIndex(FlowError):
    """A value that is no index, or too great a one."""


class InvalidMark(FlowError):
    """A value that is not the number of a mark of the ring."""


class InvalidCell(FlowError):
    """A value that is not the number of a cell."""


class InvalidSign(FlowError):
    """A value that is no sign."""


class InvalidCommand(FlowError):
    """A value that is no command."""


class UnlikeSigns(FlowError):
    """Arguments with unlike numbers of signs."""


class NotKept(FlowError):
    """A weight that the rule does not keep."""


class NotFitting(FlowError):
    """A sight that no ring fits."""


class NothingToUndo(FlowError):
    """No call is left that can be taken back."""


class TooLarge(FlowError):
    """More than `limit` of what is counted."""

    def __init__(self, limit):
        super().__init__(f"more than {limit}")
        self.limit = limit


class InvalidText(FlowError):
    """A text that tells nothing from the word `place` on; None for what is no text."""

    def __init__(self, place):
        super().__init__(f"wrong at the word {place}")
        self.place = place
