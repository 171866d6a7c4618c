"""Rows of numbers made of two others: what lean rounds and weights are found by.

A row goes with its end, a number that is to become 0 or not to be below it, and
with its set, a whole number with a bit for each thing that the row uses.
"""

from leanmodes.counts import lowest
from leanmodes.sets import is_within


def single(many, place):
    return [1 if at == place else 0 for at in range(many)]


def evened(above, end_above, other, end_other):
    # The other row is taken as often as the first one's end says, which is above
    # 0: so it never changes its sign.
    return lowest([one * -end_other + two * end_above for one, two in zip(above, other)])


def are_neighbours(one, other, every_set):
    # Where a third row does with what these two use, what the two would make is
    # made of rows that use less, and is not wanted.
    both = one | other
    return len([among for among in every_set if is_within(among, both)]) == 2


def evened_pairs(known):
    every_set = [entry[2] for entry in known]
    too_much = [entry for entry in known if entry[1] > 0]
    too_little = [entry for entry in known if entry[1] < 0]
    found = []
    for above, end_above, one in too_much:
        for below, end_below, other in too_little:
            if are_neighbours(one, other, every_set):
                found.append(evened(above, end_above, below, end_below))
    return found
