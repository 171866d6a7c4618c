"""The fewest other deeds to leave out, so that a deed stands in no round (point 15)."""

from leanmodes.lean import has_any, lean_rounds
from leanmodes.rounds import is_round
from leanmodes.rows import single


def cuts_all(rows, chosen):
    for row in rows:
        if not has_any(row, chosen):
            return False
    return True


def with_one_more(choices, others):
    found = []
    for chosen in choices:
        for place in others:
            if len(chosen) == 0 or place > chosen[-1]:
                found.append(chosen + [place])
    return found


def fewest(width, deeds, place):
    if is_round(width, deeds, single(len(deeds), place)):
        return None
    rows = [row for row in lean_rounds(width, deeds) if row[place] > 0]
    others = [other for other in range(len(deeds)) if other != place]
    # All choices of one size come ahead of any larger one. Each of the rounds has
    # another deed, so the choice of all others is the last that can be tried.
    choices = [[]]
    while True:
        for chosen in choices:
            if cuts_all(rows, chosen):
                return chosen
        choices = with_one_more(choices, others)
