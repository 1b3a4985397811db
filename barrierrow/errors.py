"""What the program refuses, one class for each kind of refusal."""


class HallError(ValueError):
    """Any refusal."""


class NoHall(HallError):
    """Too few or too many walkers or gates for a hall."""


class NoGate(HallError):
    """No such gate, or none that can be one."""


class NoRow(HallError):
    """A row that is too long, or that names what is no gate."""


class Stranger(HallError):
    """A walker's row names a gate of which the walker is no member."""


class NoWalker(HallError):
    """No such walker."""


class NoRest(HallError):
    """A hall that is not at rest, where rest is asked for."""
