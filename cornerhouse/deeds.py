"""Bodies made of bodies."""

from cornerhouse.bodies import by_corners, by_rows
from cornerhouse.forms import check_axis, check_even, check_table
from cornerhouse.whole import product


def cut(one, other):
    """The body of all points that lie in both."""
    check_even(one, other)
    return by_rows(one.dim, one.rows + other.rows)


def joined(one, other):
    """The body that the corners and rays of both make."""
    check_even(one, other)
    return by_corners(one.dim, one.corners + other.corners, one.rays + other.rays)


def sum_of_points(one, other):
    """The point of the sums of the fractions, place by place."""
    tops, bottom = one
    other_tops, other_bottom = other
    sums = [top * other_bottom + other_top * bottom for top, other_top in zip(tops, other_tops)]
    return tuple(sums), bottom * other_bottom


def summed(one, other):
    """The body of the sums of each point of one and each of the other."""
    check_even(one, other)
    corners = [sum_of_points(corner, other_corner) for corner in one.corners for other_corner in other.corners]
    return by_corners(one.dim, corners, one.rays + other.rays)


def without(numbers, axis):
    """The numbers but for that at the axis."""
    return numbers[:axis] + numbers[axis + 1:]


def shadowed(body, axis):
    """The body of all points without their number at the axis."""
    check_axis(body.dim, axis)
    corners = [(without(tops, axis), bottom) for tops, bottom in body.corners]
    rays = [without(ray, axis) for ray in body.rays]
    return by_corners(body.dim - 1, corners, [ray for ray in rays if any(ray)])


def products(table, numbers):
    """The products of the table's rows with the numbers."""
    return tuple([product(row, numbers) for row in table])


def mapped_point(table, shift, point):
    """The point of the products of the table's rows with it, the shift's numbers added."""
    tops, bottom = point
    moved = [top + bottom * step for top, step in zip(products(table, tops), shift)]
    return tuple(moved), bottom


def mapped(body, table, shift):
    """The body of all points of the body, each mapped by the table and the shift."""
    check_table(body.dim, table, shift)
    corners = [mapped_point(table, shift, corner) for corner in body.corners]
    rays = [products(table, ray) for ray in body.rays]
    return by_corners(len(table), corners, [ray for ray in rays if any(ray)])
