"""The errors that the package raises."""


class MembraneError(ValueError):
    """The base class of the others."""


class BadProgram(MembraneError):
    """What was handed in is no block."""


class BadPolicy(MembraneError):
    """What was handed in is no policy."""


class BadState(MembraneError):
    """The world is not at rest."""


class BadTrace(MembraneError):
    """The event at this place of a trace cannot stand there."""

    def __init__(self, place):
        self.place = place
