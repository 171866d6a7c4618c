"""Lean rounds (points 7 to 9).

They are found ware by ware. Without wares each deed alone is a lean round. When
a ware comes in, the lean rounds that leave it even stay, and each further one
is made of two earlier ones: one that ends the ware above 0 and one below.
"""

from leanmodes.counts import lowest
from leanmodes.rounds import end_of, is_round
from leanmodes.sets import deed_set, is_within


def one_deed(many, place):
    return [1 if at == place else 0 for at in range(many)]


def evened(above, end_above, below, end_below):
    return lowest([one * -end_below + other * end_above for one, other in zip(above, below)])


def are_neighbours(one, other, every_set):
    # Where a third lean round does with the deeds of these two, so does another
    # round that leaves the ware even: what the two make can spare a deed then.
    both = one | other
    return len([among for among in every_set if is_within(among, both)]) == 2


def with_ware(deeds, rows, ware):
    known = [(row, end_of(deeds, row, ware), deed_set(row)) for row in rows]
    every_set = [entry[2] for entry in known]
    found = [entry[0] for entry in known if entry[1] == 0]
    too_much = [entry for entry in known if entry[1] > 0]
    too_little = [entry for entry in known if entry[1] < 0]
    for above, end_above, one in too_much:
        for below, end_below, other in too_little:
            if are_neighbours(one, other, every_set):
                found.append(evened(above, end_above, below, end_below))
    return found


def lean_rounds(width, deeds):
    many = len(deeds)
    rows = [one_deed(many, place) for place in range(many)]
    for ware in range(width):
        rows = with_ware(deeds, rows, ware)
    return sorted(rows, key=deed_set, reverse=True)


def is_lean(width, deeds, counts):
    if not is_round(width, deeds, counts):
        return False
    # A round is lean or not by its deeds alone.
    return deed_set(counts) in [deed_set(row) for row in lean_rounds(width, deeds)]


def has_any(counts, some):
    return any([counts[place] > 0 for place in some])


def avoiding(width, deeds, place, others):
    return [row for row in lean_rounds(width, deeds) if row[place] > 0 and not has_any(row, others)]
