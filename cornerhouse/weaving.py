"""How corners and rays make a point, and which bodies lie in which."""

from cornerhouse.flat import as_row, flat_makers
from cornerhouse.forms import check_corners, check_even, check_point
from cornerhouse.shares import shares
from cornerhouse.whole import product


def woven(dim, corners, rays, point):
    """How often the point takes each corner and each ray, or a row that they hold and the point doesn't."""
    check_corners(dim, corners, rays)
    check_point(dim, point)
    tops, bottom = point
    found, gauge = shares(flat_makers(corners, rays), tops + (bottom,))
    if found is None:
        return "row", as_row(gauge)
    weights, scale = found
    many = len(corners)
    return "made", weights[:many], weights[many:], scale


def keeps_rays(body, rays):
    """Whether each of the rays, from any point of the body, stays in it."""
    return all([product(a, ray) >= 0 for a, b in body.rows for ray in rays])


def within(one, other):
    """Whether each point of one lies in the other."""
    check_even(one, other)
    return all([other.holds(corner) for corner in one.corners]) and keeps_rays(other, one.rays)


def same(one, other):
    """Whether both have the same points."""
    return within(one, other) and within(other, one)
