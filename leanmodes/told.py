"""Answers to the questions of an office, told by names (points 21 to 25).

Each question is asked of a standing without forbidden deeds.
"""

from leanmodes.bars import barring
from leanmodes.cuts import fewest
from leanmodes.lean import avoiding, lean_rounds
from leanmodes.made import made_of
from leanmodes.rounds import end_of, uneven
from leanmodes.stays import staying


def by_names(names, row):
    return [(name, number) for name, number in zip(names, row) if number != 0]


def told_rounds(works, rows):
    return [by_names(works.deed_names, counts) for counts in rows]


def told_lean(works):
    return told_rounds(works, lean_rounds(len(works.ware_names), works.rows))


def told_with_without(works, one, other):
    place = works.deed_names.index(one)
    others = [works.deed_names.index(other)]
    return told_rounds(works, avoiding(len(works.ware_names), works.rows, place, others))


def told_stand(works, deed):
    width = len(works.ware_names)
    place = works.deed_names.index(deed)
    weights = barring(width, works.rows, place)
    if weights is not None:
        return ("barred", by_names(works.ware_names, weights))
    return ("round", by_names(works.deed_names, avoiding(width, works.rows, place, [])[0]))


def told_idle(works):
    found = []
    for place, name in enumerate(works.deed_names):
        weights = barring(len(works.ware_names), works.rows, place)
        if weights is not None:
            found.append((name, by_names(works.ware_names, weights)))
    return found


def told_sums(works):
    return [by_names(works.ware_names, weights) for weights in staying(len(works.ware_names), works.rows)]


def told_fewest(works, deed):
    places = fewest(len(works.ware_names), works.rows, works.deed_names.index(deed))
    if places is None:
        return None
    return [works.deed_names[place] for place in places]


def row_of(works, counts):
    return [counts.get(name, 0) for name in works.deed_names]


def told_settled(works, counts):
    width = len(works.ware_names)
    row = row_of(works, counts)
    off = uneven(width, works.rows, row)
    if len(off) > 0:
        return ("uneven", works.ware_names[off[0]], end_of(works.rows, row, off[0]))
    parts = made_of(width, works.rows, row)
    return ("made", [(top, bottom, by_names(works.deed_names, lean)) for top, bottom, lean in parts])


def told_end(works, counts, ware):
    return end_of(works.rows, row_of(works, counts), works.ware_names.index(ware))
