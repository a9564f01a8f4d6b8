"""Rows of whole numbers: lowest terms, products, and what is made of what."""


def common_divisor(numbers):
    """The greatest number that divides all of them, 0 where all are nought."""
    found = 0
    for number in numbers:
        other = abs(number)
        while other:
            found, other = other, found % other
    return found


def lowest(numbers):
    """The numbers divided by the greatest number that divides all of them."""
    common = common_divisor(numbers)
    if common < 2:
        return tuple(numbers)
    return tuple([number // common for number in numbers])


def product(one, other):
    """The sum of the products of the numbers, place by place."""
    return sum([here * there for here, there in zip(one, other)])


def opposite(numbers):
    """The numbers, each with the other sign."""
    return tuple([-number for number in numbers])


def blended(one, times, other, other_times):
    """One tuple some times and another some times, in lowest terms."""
    return lowest([times * here + other_times * there for here, there in zip(one, other)])


def first_place(numbers):
    """The first place that is not nought, None where all are."""
    for place, number in enumerate(numbers):
        if number != 0:
            return place
    return None


def cleared(numbers, place, lead):
    """The numbers with nought at the place, by a lead that is above nought there.

    Only the lead may be taken with either sign: the numbers may be a ray, which is not its opposite.
    """
    if numbers[place] == 0:
        return numbers
    return blended(numbers, lead[place], lead, -numbers[place])


def reduced(numbers, leads):
    """The numbers with nought at the place of each lead."""
    rest = numbers
    for place, lead in leads:
        rest = cleared(rest, place, lead)
    return rest


def echelon(rows):
    """Pairs (place, lead) whose leads make what the rows make, and nothing to spare.

    Each lead is above nought at its place, its first that is not nought, where all other leads are nought.
    So the leads, in lowest terms, are the same for all rows that make the same.
    """
    leads = []
    for row in rows:
        rest = lowest(reduced(row, leads))
        place = first_place(rest)
        if place is None:
            continue
        if rest[place] < 0:
            rest = opposite(rest)
        leads = [(spot, cleared(lead, place, rest)) for spot, lead in leads]
        leads.append((place, rest))
    return leads


def rank(rows):
    """How many of the rows can be taken at the most, none of which is made of the others."""
    return len(echelon(rows))
