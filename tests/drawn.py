"""What several tests need: drawn works, lean rounds reckoned apart from the program, and answers that are spoilt."""

import copy
import random
import unittest
from fractions import Fraction
from functools import cmp_to_key
from itertools import combinations
from math import gcd, lcm

HIGHEST = 999999999999

ANY_NUMBER = range(-9, 10)
SMALL_NUMBERS = (-1, 0, 1)

EXAMPLE = (2, [[2, 0], [-3, 1], [0, -1], [-1, -1]])


def draw_works(draw, width, many, numbers):
    return (width, [[draw.choice(numbers) for _ in range(width)] for _ in range(many)])


def works_of_every_size(seed, most_deeds, times):
    draw = random.Random(seed)
    return [
        draw_works(draw, width, many, numbers)
        for numbers in (ANY_NUMBER, SMALL_NUMBERS)
        for width in range(7)
        for many in range(most_deeds + 1)
        for _ in range(times)
    ]


def works_of_ten_deeds():
    """Seeds by which there are many lean rounds."""
    return [
        draw_works(random.Random(seed), width, 10, numbers)
        for seed, width, numbers in [
            (34, 2, ANY_NUMBER), (182, 3, ANY_NUMBER), (82, 4, ANY_NUMBER), (159, 5, ANY_NUMBER), (73, 6, ANY_NUMBER),
            (28, 1, SMALL_NUMBERS), (72, 3, SMALL_NUMBERS), (98, 5, SMALL_NUMBERS), (45, 6, SMALL_NUMBERS),
        ]
    ]


def reduced(matrix, columns):
    rows = [[Fraction(number) for number in row] for row in matrix]
    pivots = []
    for column in range(columns):
        top = len(pivots)
        at = next((row for row in range(top, len(rows)) if rows[row][column] != 0), None)
        if at is None:
            continue
        rows[top], rows[at] = rows[at], rows[top]
        rows[top] = [number / rows[top][column] for number in rows[top]]
        for row in range(len(rows)):
            if row != top and rows[row][column] != 0:
                rows[row] = [one - rows[row][column] * other for one, other in zip(rows[row], rows[top])]
        pivots.append(column)
    return rows, pivots


def only_balance(width, deeds, chosen):
    """The one way, but for a factor, in which the chosen deeds leave every ware even; None where it is not one."""
    rows, pivots = reduced([[deeds[place][ware] for place in chosen] for ware in range(width)], len(chosen))
    free = [column for column in range(len(chosen)) if column not in pivots]
    if len(free) != 1:
        return None
    balance = [Fraction(0)] * len(chosen)
    balance[free[0]] = Fraction(1)
    for row, column in enumerate(pivots):
        balance[column] = -rows[row][free[0]]
    return balance


def in_lowest_terms(row):
    common = lcm(*[Fraction(number).denominator for number in row])
    whole = [int(number * common) for number in row]
    return [number // gcd(*whole) for number in whole]


def goes_first(one, other):
    for count, other_count in zip(one, other):
        if (count > 0) != (other_count > 0):
            return -1 if count > 0 else 1
    return 0


def in_order(rows):
    return sorted(rows, key=cmp_to_key(goes_first))


def lean_by_sets(width, deeds):
    found = {}
    for size in range(1, len(deeds) + 1):
        for chosen in combinations(range(len(deeds)), size):
            if any(set(known) < set(chosen) for known in found):
                continue
            balance = only_balance(width, deeds, chosen)
            if balance is not None and all(number > 0 for number in balance):
                row = [0] * len(deeds)
                for place, count in zip(chosen, in_lowest_terms(balance)):
                    row[place] = count
                found[chosen] = row
    return in_order(found.values())


def lists_within(value):
    found = [value] if isinstance(value, list) else []
    if isinstance(value, (list, tuple)):
        for part in value:
            found.extend(lists_within(part))
    return found


def spoil(value):
    for found in lists_within(value):
        if found:
            found[0] = "spoilt"
        found.append("spoilt")


class Case(unittest.TestCase):
    def assert_whole(self, number):
        self.assertIs(type(number), int)

    def assert_row(self, told, wanted):
        self.assertIs(type(told), list)
        for number in told:
            self.assert_whole(number)
        self.assertEqual(told, wanted)

    def assert_apart(self, ask, *handed_in):
        """What is handed in stays; what is told is new; neither, when changed, changes a later answer."""
        kept = copy.deepcopy(handed_in)
        told = ask(*handed_in)
        answer = copy.deepcopy(told)
        self.assertEqual(handed_in, kept)
        self.assertEqual(ask(*handed_in), answer)
        every = lists_within(told)
        self.assertEqual(len({id(found) for found in every}), len(every))
        self.assertFalse({id(found) for found in every} & {id(found) for found in lists_within(handed_in)})
        spoil(told)
        self.assertEqual(handed_in, kept)
        again = ask(*handed_in)
        self.assertEqual(again, answer)
        spoil(handed_in)
        self.assertEqual(again, answer)
        self.assertEqual(ask(*kept), answer)
