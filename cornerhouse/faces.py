"""The faces of a body, and a point inside.

A face is told by masks, with a bit for each of the body's corners and each of its rays that lie in it: what faces
have in common is what their masks have in common.
"""

from cornerhouse.flat import as_point, flat_makers
from cornerhouse.whole import lowest, product, rank


def ways(corners, rays):
    """The dimension of what the corners and rays make."""
    return rank(flat_makers(corners, rays)) - 1


def dimension(body):
    """The number of ways in which one can go within the body, -1 for the empty body."""
    return ways(body.corners, body.rays)


def mask_of(marks):
    """A number with a bit for each of the marks that is true."""
    mask = 0
    for place, mark in enumerate(marks):
        if mark:
            mask = mask | (1 << place)
    return mask


def places(mask, many):
    """The places of the bits that are set, among so many."""
    return tuple([place for place in range(many) if (mask >> place) & 1])


def side_masks(body, row):
    """The masks of the corners and of the rays that lie at the row's bound."""
    a, b = row
    corners = mask_of([product(a, tops) == b * bottom for tops, bottom in body.corners])
    return corners, mask_of([product(a, ray) == 0 for ray in body.rays])


def face_masks(body):
    """The pairs of masks of all faces, each once."""
    found = {(mask_of([True] * len(body.corners)), mask_of([True] * len(body.rays))): True}
    for row in body.rows:
        side_corners, side_rays = side_masks(body, row)
        for corners, rays in list(found):
            common = corners & side_corners, rays & side_rays
            # What has no corner has no point, whatever rays lie at all these bounds.
            if common[0]:
                found[common] = True
    return list(found)


def face_of(body, masks):
    """The face as it is told: its dimension, and the places of its corners and rays."""
    corners = places(masks[0], len(body.corners))
    rays = places(masks[1], len(body.rays))
    held = ways([body.corners[place] for place in corners], [body.rays[place] for place in rays])
    return held, corners, rays


def faces(body):
    """All faces of the body, ascending."""
    if body.is_empty():
        return []
    return sorted([face_of(body, masks) for masks in face_masks(body)])


def inner(body):
    """A point of the body at no row's bound at which not all of it lies, None for the empty body."""
    if body.is_empty():
        return None
    # Each corner and each ray has a share in the sum, so it leaves the bound of each row that one of them leaves.
    makers = flat_makers(body.corners, body.rays)
    return as_point(lowest([sum(numbers) for numbers in zip(*makers)]))
