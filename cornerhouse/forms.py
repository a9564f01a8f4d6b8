"""Refusals of what has another form than a body is told by."""

from cornerhouse.errors import BadBody

MOST_DIMENSIONS = 4


def is_number(thing):
    """Whether it is a whole number; True and False are none."""
    return isinstance(thing, int) and not isinstance(thing, bool)


def are_numbers(thing, count):
    """Whether it is a tuple of so many numbers."""
    return isinstance(thing, tuple) and len(thing) == count and all([is_number(part) for part in thing])


def are_numbers_and_number(thing, count):
    """Whether it is a tuple of a tuple of so many numbers, and of a number."""
    return isinstance(thing, tuple) and len(thing) == 2 and are_numbers(thing[0], count) and is_number(thing[1])


def check_dim(dim):
    """Refuse what is no number of dimensions."""
    if not is_number(dim) or dim < 1 or dim > MOST_DIMENSIONS:
        raise BadBody("the number of dimensions is not one of 1 to 4")


def check_list(things):
    """Refuse what is no list."""
    if not isinstance(things, list):
        raise BadBody("rows, corners and rays are lists")


def check_row(dim, row):
    """Refuse what is no row of so many dimensions."""
    if not are_numbers_and_number(row, dim):
        raise BadBody("a row is a tuple of a number for each dimension, and a number")


def check_point(dim, point):
    """Refuse what is no point of so many dimensions."""
    if not are_numbers_and_number(point, dim) or point[1] < 1:
        raise BadBody("a point is a tuple of a number for each dimension, and a number of 1 or more")


def check_ray(dim, ray):
    """Refuse what is no ray of so many dimensions."""
    if not are_numbers(ray, dim) or not any(ray):
        raise BadBody("a ray is a number for each dimension, not all of them nought")


def check_rows(dim, rows):
    """Refuse what does not tell a body by rows."""
    check_dim(dim)
    check_list(rows)
    for row in rows:
        check_row(dim, row)


def check_corners(dim, corners, rays):
    """Refuse what does not tell a body by corners and rays."""
    check_dim(dim)
    check_list(corners)
    check_list(rays)
    for corner in corners:
        check_point(dim, corner)
    for ray in rays:
        check_ray(dim, ray)
