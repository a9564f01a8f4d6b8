"""What the program refuses."""


class BodyError(ValueError):
    """Any refusal."""


class BadBody(BodyError):
    """A number of dimensions, a row, a point or a ray is none."""


class Uneven(BodyError):
    """Two things have other numbers of dimensions."""


class NoAxis(BodyError):
    """A body has no such axis."""
