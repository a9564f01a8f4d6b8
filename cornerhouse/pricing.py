"""What is least in a direction with prices that show it, and rows that part bodies."""

from cornerhouse.bodies import corners_and_rays
from cornerhouse.flat import as_row, flat_rows
from cornerhouse.forms import check_direction, check_even, check_rows
from cornerhouse.shares import lowest_weights, point_or_weights, shares
from cornerhouse.whole import lowest, product


def is_less(one, other, direction):
    """Whether one point's product with the direction is less than the other's."""
    return product(one[0], direction) * other[1] < product(other[0], direction) * one[1]


def least_corner(corners, direction):
    """The first of the corners whose product with the direction is least."""
    least = corners[0]
    for corner in corners:
        if is_less(corner, least, direction):
            least = corner
    return least


def falling_ray(rays, direction):
    """The first of the rays whose product with the direction is below nought, None where there is none."""
    for ray in rays:
        if product(ray, direction) < 0:
            return ray
    return None


def prices(rows, direction, corner):
    """Weights of the rows, and a scale, that show that the corner is least in the direction."""
    tops, bottom = corner
    goal = tuple([number * bottom for number in direction]) + (-product(tops, direction),)
    # What is least is the most that the rows' b come to where their a make the direction: so the goal is made.
    found, gauge = shares(flat_rows(rows), goal)
    weights, scale = found
    return lowest_weights(weights, scale * bottom)


def priced(dim, rows, direction):
    """What the body that the rows tell has that is least in the direction, or that it is empty, or has no least."""
    check_rows(dim, rows)
    check_direction(dim, direction)
    corners, rays = corners_and_rays(dim, rows)
    if not corners:
        point, weights = point_or_weights(dim, rows)
        return "empty", weights
    ray = falling_ray(rays, direction)
    if ray is not None:
        return "none", corners[0], ray
    corner = least_corner(corners, direction)
    weights, scale = prices(rows, direction, corner)
    return "least", corner, weights, scale


def row_sum(dim, rows, weights):
    """The row of the sums of all a and of all b, each its weight times, in lowest terms."""
    sums = [0] * (dim + 1)
    for row, weight in zip(flat_rows(rows), weights):
        sums = [number + weight * part for number, part in zip(sums, row)]
    return as_row(lowest(sums))


def parted(one, other):
    """A point in both, or a row that each point of one holds, and none of the other."""
    check_even(one, other)
    point, weights = point_or_weights(one.dim, one.rows + other.rows)
    if weights is None:
        return "meet", point
    # Their weights times, the other's rows come to the opposite of this row's a, and to a b that leaves a gap.
    return "row", row_sum(one.dim, one.rows, weights[:len(one.rows)])
