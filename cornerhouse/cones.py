"""Cones: all tuples whose products with some rows are not below nought.

The rows are taken one by one. Beside each ray goes a mask, with a bit for each row taken so far
at which the ray's product is nought: masks alone tell which two rays have a face between them.
"""

from cornerhouse.whole import blended, echelon, opposite, product, reduced


def unit(size, place):
    """A tuple of noughts, with 1 at the place."""
    return tuple([1 if spot == place else 0 for spot in range(size)])


def crossing(lines, row):
    """The place of a line that crosses the row's bound, None where all lie in it."""
    for place, line in enumerate(lines):
        if product(line, row) != 0:
            return place
    return None


def levelled(numbers, ray, row):
    """The numbers moved along the ray, which is inside the row's bound, to that bound."""
    return blended(numbers, product(ray, row), ray, -product(numbers, row))


def bent(lines, place, masked, row, bit):
    """Lines and masked rays behind a row that the line at the place crosses.

    That line alone leaves the row's bound, and stays as a ray; all else can be moved along it to the bound.
    """
    line = lines[place]
    ray = line if product(line, row) > 0 else opposite(line)
    others = lines[:place] + lines[place + 1:]
    kept = [levelled(other, ray, row) for other in others]
    moved = [(levelled(other, ray, row), mask | bit) for other, mask in masked]
    # All lines lie in the bounds of all rows before this one, and so does the ray.
    moved.append((ray, bit - 1))
    return kept, moved


def bits(mask):
    """How many bits of it are set."""
    return f"{mask:b}".count("1")


def are_neighbours(mask, other, masks, fewest):
    """Whether no third ray lies at all the bounds at which these two lie."""
    shared = mask & other
    # Two neighbours share the fewest bounds or more: that rules out most pairs without a look at all rays.
    if bits(shared) < fewest:
        return False
    found = 0
    for held in masks:
        if held & shared == shared:
            found += 1
            # The two themselves are among the masks.
            if found > 2:
                return False
    return True


def crossed(above, below, masked, row, bit, fewest):
    """Masked rays at the row's bound, between the neighbours on its two sides."""
    masks = [mask for ray, mask in masked]
    found = []
    for high, high_mask in above:
        for low, low_mask in below:
            if are_neighbours(high_mask, low_mask, masks, fewest):
                found.append((levelled(low, high, row), (high_mask & low_mask) | bit))
    return found


def halved(masked, row, bit, fewest):
    """Masked rays behind a row whose bound no line crosses."""
    above = [(ray, mask) for ray, mask in masked if product(ray, row) > 0]
    level = [(ray, mask | bit) for ray, mask in masked if product(ray, row) == 0]
    below = [(ray, mask) for ray, mask in masked if product(ray, row) < 0]
    return above + level + crossed(above, below, masked, row, bit, fewest)


def cone(rows, size):
    """Lines and rays that make all tuples of the size whose product with each row is not below nought.

    What the rows tell alone settles both lists: the lines are leads, at whose places all rays are nought.
    """
    lines = [unit(size, place) for place in range(size)]
    masked = []
    bit = 1
    for row in rows:
        place = crossing(lines, row)
        if place is None:
            # The rows so far leave the lines free, those at whose bounds two neighbours lie two ways more.
            masked = halved(masked, row, bit, size - len(lines) - 2)
        else:
            lines, masked = bent(lines, place, masked, row, bit)
        bit = bit * 2
    leads = echelon(lines)
    rays = [reduced(ray, leads) for ray, mask in masked]
    return sorted([lead for place, lead in leads]), sorted(rays)
