"""Refusals of what has another form than a body is told, asked or mapped by."""

from cornerhouse.errors import BadBody, NoAxis, Uneven

MOST_DIMENSIONS = 4


def is_number(thing):
    """Whether it is a whole number; True and False are none."""
    return isinstance(thing, int) and not isinstance(thing, bool)


def are_numbers(thing, count):
    """Whether it is a tuple of so many numbers."""
    return isinstance(thing, tuple) and len(thing) == count and all([is_number(part) for part in thing])


def are_numbers_and_number(thing, count):
    """Whether it is a tuple of a tuple of so many numbers, and of a number."""
    return isinstance(thing, tuple) and len(thing) == 2 and are_numbers(thing[0], count) and is_number(thing[1])


def check_dim(dim):
    """Refuse what is no number of dimensions."""
    if not is_number(dim) or dim < 1 or dim > MOST_DIMENSIONS:
        raise BadBody("the number of dimensions is not one of 1 to 4")


def check_list(things):
    """Refuse what is no list."""
    if not isinstance(things, list):
        raise BadBody("rows, corners and rays are lists")


def check_row(dim, row):
    """Refuse what is no row of so many dimensions."""
    if not are_numbers_and_number(row, dim):
        raise BadBody("a row is a tuple of a number for each dimension, and a number")


def check_point(dim, point):
    """Refuse what is no point of so many dimensions."""
    if not are_numbers_and_number(point, dim) or point[1] < 1:
        raise BadBody("a point is a tuple of a number for each dimension, and a number of 1 or more")


def check_ray(dim, ray):
    """Refuse what is no ray of so many dimensions."""
    if not are_numbers(ray, dim) or not any(ray):
        raise BadBody("a ray is a number for each dimension, not all of them nought")


def check_rows(dim, rows):
    """Refuse what does not tell a body by rows."""
    check_dim(dim)
    check_list(rows)
    for row in rows:
        check_row(dim, row)


def check_corners(dim, corners, rays):
    """Refuse what does not tell a body by corners and rays."""
    check_dim(dim)
    check_list(corners)
    check_list(rays)
    for corner in corners:
        check_point(dim, corner)
    for ray in rays:
        check_ray(dim, ray)


def check_direction(dim, direction):
    """Refuse what is no direction of so many dimensions."""
    if not are_numbers(direction, dim):
        raise BadBody("a direction is a number for each dimension")


def check_even(one, other):
    """Refuse two bodies of other numbers of dimensions."""
    if one.dim != other.dim:
        raise Uneven("two bodies have other numbers of dimensions")


def check_axis(dim, axis):
    """Refuse what is no axis that a body of so many dimensions can lose."""
    if dim < 2:
        raise NoAxis("a body of one dimension has no shadow")
    if not is_number(axis) or axis < 0 or axis >= dim:
        raise NoAxis("an axis is a number from 0 to below the number of dimensions")


def check_table(dim, table, shift):
    """Refuse what maps no body of so many dimensions."""
    if not isinstance(table, list) or len(table) < 1 or len(table) > MOST_DIMENSIONS:
        raise BadBody("a table is a list of one to four rows")
    if not are_numbers(shift, len(table)):
        raise BadBody("a shift is a number for each row of the table")
    for row in table:
        if not isinstance(row, tuple) or not are_numbers(row, len(row)):
            raise BadBody("a row of a table is a tuple of numbers")
    for row in table:
        if len(row) != dim:
            raise Uneven("a row of a table has another count than the body has dimensions")
