"""Lean rounds (points 7 to 9).

They are found ware by ware. Without wares each deed alone is a lean round. When
a ware comes in, the lean rounds that leave it even stay, and each further one
is made of two earlier ones: one that ends the ware above 0 and one below.
"""

from leanmodes.rounds import end_of, is_round
from leanmodes.rows import evened_pairs, single
from leanmodes.sets import deed_set


def with_ware(deeds, rows, ware):
    known = [(row, end_of(deeds, row, ware), deed_set(row)) for row in rows]
    return [entry[0] for entry in known if entry[1] == 0] + evened_pairs(known)


def lean_rounds(width, deeds):
    many = len(deeds)
    rows = [single(many, place) for place in range(many)]
    for ware in range(width):
        rows = with_ware(deeds, rows, ware)
    return sorted(rows, key=deed_set, reverse=True)


def is_lean(width, deeds, counts):
    if not is_round(width, deeds, counts):
        return False
    # A round is lean or not by its deeds alone.
    return deed_set(counts) in [deed_set(row) for row in lean_rounds(width, deeds)]


def has_any(counts, some):
    return any([counts[place] > 0 for place in some])


def avoiding(width, deeds, place, others):
    return [row for row in lean_rounds(width, deeds) if row[place] > 0 and not has_any(row, others)]
