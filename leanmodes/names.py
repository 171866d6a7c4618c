"""The form that names of wares and deeds have (point 16)."""

LETTERS = "abcdefghijklmnopqrstuvwxyz"
LONGEST = 6


def has_form(name):
    return 1 <= len(name) <= LONGEST and all([sign in LETTERS for sign in name])
