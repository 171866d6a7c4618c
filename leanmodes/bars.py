"""Weights that bar a deed from all rounds (points 12 and 13)."""

from leanmodes.weights import free_and_held, gain_of


def gains(deeds, weights):
    return [gain_of(deed, weights) for deed in deeds]


def barring(width, deeds, place):
    # Whatever the deed gains by weights by which no deed loses, it gains by the
    # held rows that make them.
    for weights in free_and_held(width, deeds)[1]:
        if gain_of(deeds[place], weights) > 0:
            return weights
    return None
