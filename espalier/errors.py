"""The errors of Espalier: every refusal is one of the two at the end."""


class EspalierError(ValueError):
    """What all refusals have in common."""

    def __init__(self):
        ValueError.__init__(self)


class NotValid(EspalierError):
    """An argument is outside of its bounds."""


class Broken(EspalierError):
    """A memory does not contain a sound tree."""
