"""Sets of deeds, each kept as one whole number with a bit for each deed."""


def deed_set(counts):
    # The first deed has the highest bit: so of two sets of the same works the
    # greater number is the one that goes first in the order of point 8.
    found = 0
    for count in counts:
        found = found * 2
        if count > 0:
            found = found + 1
    return found


def is_within(one, other):
    return (one & other) == one
