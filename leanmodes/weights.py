"""What deeds gain by weights, and all weights by which no deed loses (points 12 to 14).

The weights by which no deed loses are made of two lists of rows: free rows, by
which no deed gains or loses, taken with fractions of any sign, and held rows,
taken with fractions from 0 on. They are found deed by deed. Without deeds each
ware's weight is free. A deed that gains or loses by a free row makes it a held
one and leaves all others even; else the held rows by which it loses fall away,
and in their place come rows made of one by which it gains and one by which it
loses.
"""

from leanmodes.rows import evened, evened_pairs, single
from leanmodes.sets import deed_set


def gain_of(deed, weights):
    return sum([weight * number for weight, number in zip(weights, deed)])


def first_moving(deed, rows):
    for at, weights in enumerate(rows):
        if gain_of(deed, weights) != 0:
            return at
    return None


def gaining(deed, weights):
    if gain_of(deed, weights) > 0:
        return weights
    return [-weight for weight in weights]


def all_evened(deed, mover, rows):
    return [evened(mover, gain_of(deed, mover), weights, gain_of(deed, weights)) for weights in rows]


def not_losing(deed, earlier, rows):
    known = [
        (weights, gain_of(deed, weights), deed_set([gain_of(other, weights) for other in earlier]))
        for weights in rows
    ]
    return [entry[0] for entry in known if entry[1] >= 0] + evened_pairs(known)


def free_and_held(width, deeds):
    free = [single(width, ware) for ware in range(width)]
    held = []
    for at, deed in enumerate(deeds):
        moving = first_moving(deed, free)
        if moving is None:
            held = not_losing(deed, deeds[:at], held)
        else:
            mover = gaining(deed, free[moving])
            free = all_evened(deed, mover, free[:moving] + free[moving + 1:])
            held = all_evened(deed, mover, held) + [mover]
    return (free, held)
