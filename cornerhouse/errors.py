"""What the program refuses."""


class BodyError(ValueError):
    """Any refusal."""


class BadBody(BodyError):
    """A number of dimensions, a row, a point, a ray, a direction or a table with its shift is none."""


class Uneven(BodyError):
    """Two bodies, or a body and a row of a table, have other numbers of dimensions."""


class NoAxis(BodyError):
    """A body has no such axis, or none that it can lose."""
