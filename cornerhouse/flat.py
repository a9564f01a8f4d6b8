"""Points, rays and rows as tuples of one number more than there are dimensions.

A point (tops, bottom) is taken as the tuple of its tops and its bottom, a ray as that of its numbers and nought,
a row (a, b) as that of a and -b: so a point holds a row where the product of both is not below nought.
"""


def flat_rows(rows):
    """The rows as such tuples."""
    return [a + (-b,) for a, b in rows]


def flat_makers(corners, rays):
    """The corners, and behind them the rays, as such tuples."""
    return [tops + (bottom,) for tops, bottom in corners] + [ray + (0,) for ray in rays]


def as_row(numbers):
    """The row that is such a tuple."""
    return numbers[:-1], -numbers[-1]


def as_point(numbers):
    """The point that is such a tuple; its last number is 1 or more."""
    return numbers[:-1], numbers[-1]
