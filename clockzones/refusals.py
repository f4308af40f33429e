"""The errors that stand for a refused call, one for each refusal."""


class NotAllowed(ValueError):
    """What is handed over is no zone, no set of clocks, or not what the call takes: -1."""


class OutOfReach(ValueError):
    """A bound of what would be told is too large or too small to be a bound: -2."""


class NoSuchRun(ValueError):
    """No run comes there, or the edges make no row that a run could have: -3."""
