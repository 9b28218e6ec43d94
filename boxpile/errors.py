"""The refusals: one class for each kind."""


class PileError(ValueError):
    """Any refusal."""


class NoHand(PileError):
    """A hand that is none of the pile's hands."""


class NoSize(PileError):
    """A size that no box has."""


class Full(PileError):
    """A make while as many boxes are alive as there may be."""


class NoBox(PileError):
    """A hand that holds no box, or the number of a box that is not alive."""


class NoSlot(PileError):
    """A slot that the box has not."""


class NoDeed(PileError):
    """A line that is no deed."""
