"""Tallies: how many ways there are of each cost below 120, kept in one whole number.

A tally has one field of bits for each cost, all of the same width. So many tallies are added at once, cost by cost,
and ways get dearer by a shift. The dearest stand lowest: what gets too dear falls off at the end.
"""

COSTS = 120


def width_for(how_many):
    """Bits that hold every number of ways through chords with so many settings each."""
    product = 1
    for number in how_many:
        product *= max(1, number)
    return product.bit_length()


def one_free_way(width):
    return 1 << ((COSTS - 1) * width)


def made_dearer(tally, cost, width):
    return tally >> (cost * width)


def how_many_at(tally, cost, width):
    """How many ways cost just so much; for a cost below 0, which lies above all fields, none."""
    return (tally >> ((COSTS - 1 - cost) * width)) & ((1 << width) - 1)


def by_cost(tally, width):
    return [how_many_at(tally, cost, width) for cost in range(COSTS)]
