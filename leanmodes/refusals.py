"""What an office refuses (point 19): each check raises the error of its refusal, or lets pass.

The words of an error tell no number that was handed in: Python does not write
out a number that is far too long.
"""

from leanmodes.errors import (
    BadName, BadNumber, Forbidden, NoDeed, NoRoom, NoRound, NotDone, NotForbidden, NoWare, Taken,
)
from leanmodes.names import LONGEST, has_form

HIGHEST_NUMBER = 9
HIGHEST_COUNT = 999999999999


def check_new_name(name, names):
    if not has_form(name):
        raise BadName(f"{name!r} is no name of 1 to {LONGEST} small letters from a to z")
    if name in names:
        raise Taken(f"the name {name!r} is taken")


def check_deeds(standing, asked):
    for name in asked:
        if name not in standing.deed_names:
            raise NoDeed(f"there is no deed {name!r}")


def check_wares(standing, asked):
    for name in asked:
        if name not in standing.ware_names:
            raise NoWare(f"there is no ware {name!r}")


def check_let(standing, asked):
    for name in asked:
        if name in standing.stopped:
            raise Forbidden(f"the deed {name!r} is forbidden")


def check_forbidden(standing, deed):
    if deed not in standing.stopped:
        raise NotForbidden(f"the deed {deed!r} is not forbidden")


def check_numbers(numbers):
    for number in numbers:
        if abs(number) > HIGHEST_NUMBER:
            raise BadNumber(f"a number of a deed is not from -{HIGHEST_NUMBER} to {HIGHEST_NUMBER}")


def check_counts(counts):
    for count in counts:
        if count < 0 or count > HIGHEST_COUNT:
            raise BadNumber(f"a count is not from 0 to {HIGHEST_COUNT}")


def check_some(counts):
    if not any([count > 0 for count in counts]):
        raise NoRound("no count is above 0")


def check_kept(many, kept):
    if many > kept:
        raise NotDone(f"no more than {kept} doings are kept")


def check_room(many, most):
    if many >= most:
        raise NoRoom(f"there is room for {most} alone")
