"""The base of all errors of the package."""


class MoveError(ValueError):
    """The base of all errors of the package."""
