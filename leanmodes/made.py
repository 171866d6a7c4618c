"""Rounds made of lean ones by parts, and parts joined (points 10 and 11)."""

from leanmodes.counts import added, fraction
from leanmodes.lean import lean_rounds
from leanmodes.rounds import places
from leanmodes.sets import deed_set, is_within


def first_to_run_out(rest, row):
    scarcest = places(row)[0]
    for place in places(row):
        if rest[place] * row[scarcest] < rest[scarcest] * row[place]:
            scarcest = place
    return scarcest


def made_of(width, deeds, counts):
    # What is left is rest over bottom. Each part uses a deed up, so there are no
    # more parts than deeds; and a lean round that was taken, or that does not
    # fit, never fits later: one walk through them in their order is enough.
    rest = list(counts)
    bottom = 1
    parts = []
    for row in lean_rounds(width, deeds):
        if is_within(deed_set(row), deed_set(rest)):
            place = first_to_run_out(rest, row)
            have = rest[place]
            need = row[place]
            share = fraction(have, bottom * need)
            parts.append((share[0], share[1], row))
            rest = [left * need - have * count for left, count in zip(rest, row)]
            bottom = bottom * need
    return parts


def joined(many, parts):
    sums = [(0, 1) for place in range(many)]
    for top, bottom, counts in parts:
        sums = [added(before, (top * count, bottom)) for before, count in zip(sums, counts)]
    return sums
