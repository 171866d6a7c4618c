"""Rows of weights by which no deed gains or loses (point 14)."""

from leanmodes.weights import free_and_held


def staying(width, deeds):
    return free_and_held(width, deeds)[0]
