"""Bodies, told by rows and by corners and rays, each telling made from the other.

As flat tuples, the two tellings of a body are two cones, each made of the other's rows.
"""

from cornerhouse.cones import cone
from cornerhouse.flat import as_point, as_row, flat_makers, flat_rows
from cornerhouse.forms import check_corners, check_point, check_rows
from cornerhouse.whole import opposite, product


class Body:
    """A set of points with flat sides; by_rows and by_corners make it."""

    def __init__(self, dim, rows, corners, rays):
        self.dim = dim
        self.rows = rows
        self.corners = corners
        self.rays = rays

    def is_empty(self):
        """Whether it has no point."""
        return not self.corners

    def is_bounded(self):
        """Whether it is without rays."""
        return not self.rays

    def holds(self, point):
        """Whether the point lies in it."""
        check_point(self.dim, point)
        tops, bottom = point
        return all([product(a, tops) >= b * bottom for a, b in self.rows])


def bottom_row(dim):
    """The row, as a tuple, that all points hold: a bottom is not below nought."""
    return (0,) * dim + (1,)


def both_ways(lines):
    """Each line and its opposite."""
    return lines + [opposite(line) for line in lines]


def corners_and_rays(dim, rows):
    """The corners and rays that make the body that the rows tell; no corners where it is empty."""
    lines, rays = cone([bottom_row(dim)] + flat_rows(rows), dim + 1)
    corners = [as_point(ray) for ray in rays if ray[dim] > 0]
    ends = [ray[:dim] for ray in both_ways(lines) + rays if ray[dim] == 0]
    return sorted(corners), sorted(ends)


def told_rows(dim, corners, rays):
    """The rows that tell the body that the corners, one or more, and rays make."""
    lines, bounds = cone(flat_makers(corners, rays), dim + 1)
    # The row that all points hold can bound the cone, but bounds no body.
    held = [row for row in both_ways(lines) + bounds if row != bottom_row(dim)]
    return sorted([as_row(row) for row in held])


def empty_body(dim):
    """The body without a point."""
    return Body(dim, [((0,) * dim, 1)], [], [])


def by_rows(dim, rows):
    """The body of all points that hold all the rows."""
    check_rows(dim, rows)
    corners, rays = corners_and_rays(dim, rows)
    if not corners:
        return empty_body(dim)
    return Body(dim, told_rows(dim, corners, rays), corners, rays)


def by_corners(dim, corners, rays):
    """The body of all points that the corners and rays make."""
    check_corners(dim, corners, rays)
    if not corners:
        return empty_body(dim)
    rows = told_rows(dim, corners, rays)
    own_corners, own_rays = corners_and_rays(dim, rows)
    return Body(dim, rows, own_corners, own_rays)
