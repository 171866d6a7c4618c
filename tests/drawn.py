"""What several tests need: drawn works, lean rounds reckoned apart from the program, and answers that are spoilt."""

import copy
import random
import time
import unittest
from fractions import Fraction
from functools import cache, cmp_to_key
from itertools import combinations, product
from math import gcd, lcm

HIGHEST = 999999999999

ANY_NUMBER = range(-9, 10)
SMALL_NUMBERS = (-1, 0, 1)

REFUSALS = [
    "BadName", "Taken", "NoDeed", "NoWare", "Forbidden",
    "NotForbidden", "BadNumber", "NoRound", "NotDone", "NoRoom",
]

EXAMPLE = (2, [[2, 0], [-3, 1], [0, -1], [-1, -1]])


def draw_works(draw, width, many, numbers):
    return (width, [[draw.choice(numbers) for _ in range(width)] for _ in range(many)])


def works_of_every_size(seed, most_deeds, times):
    draw = random.Random(seed)
    return [
        draw_works(draw, width, many, numbers)
        for numbers in (ANY_NUMBER, SMALL_NUMBERS)
        for width in range(7)
        for many in range(most_deeds + 1)
        for _ in range(times)
    ]


def works_of_ten_deeds():
    """Seeds by which there are many lean rounds."""
    return [
        draw_works(random.Random(seed), width, 10, numbers)
        for seed, width, numbers in [
            (34, 2, ANY_NUMBER), (182, 3, ANY_NUMBER), (82, 4, ANY_NUMBER), (159, 5, ANY_NUMBER), (73, 6, ANY_NUMBER),
            (28, 1, SMALL_NUMBERS), (72, 3, SMALL_NUMBERS), (98, 5, SMALL_NUMBERS), (45, 6, SMALL_NUMBERS),
        ]
    ]


def largest_works():
    draw = random.Random(6)
    works = [draw_works(draw, 6, 10, numbers) for numbers in (ANY_NUMBER, SMALL_NUMBERS) for _ in range(20)]
    # One maker and one user for each power of a place: as many rounds on the way as can be.
    works.append((6, [[(-1) ** place * min(9, (place + 1) ** ware) for ware in range(6)] for place in range(10)]))
    works.append((6, [[1 if (place + ware) % 2 else -1 for ware in range(6)] for place in range(10)]))
    return works


def reduced(matrix, columns):
    """Rows of whole numbers that stand for the same balances, and the columns in which one row alone has a number."""
    rows = [list(row) for row in matrix]
    pivots = []
    for column in range(columns):
        top = len(pivots)
        at = next((row for row in range(top, len(rows)) if rows[row][column] != 0), None)
        if at is None:
            continue
        rows[top], rows[at] = rows[at], rows[top]
        lead = rows[top]
        for at, row in enumerate(rows):
            if at != top and row[column] != 0:
                left = [one * lead[column] - row[column] * other for one, other in zip(row, lead)]
                common = gcd(*left) or 1
                rows[at] = [number // common for number in left]
        pivots.append(column)
    return rows, pivots


def rank(matrix, columns):
    return len(reduced(matrix, columns)[1])


def only_balance(width, deeds, chosen):
    """The one way, but for a factor, in which the chosen deeds leave every ware even; None where it is not one."""
    rows, pivots = reduced([[deeds[place][ware] for place in chosen] for ware in range(width)], len(chosen))
    free = [column for column in range(len(chosen)) if column not in pivots]
    if len(free) != 1:
        return None
    balance = [Fraction(0)] * len(chosen)
    balance[free[0]] = Fraction(1)
    for row, column in enumerate(pivots):
        balance[column] = Fraction(-rows[row][free[0]], rows[row][column])
    return balance


def in_lowest_terms(row):
    common = lcm(*[Fraction(number).denominator for number in row])
    whole = [int(number * common) for number in row]
    return [number // gcd(*whole) for number in whole]


def goes_first(one, other):
    for count, other_count in zip(one, other):
        if (count > 0) != (other_count > 0):
            return -1 if count > 0 else 1
    return 0


def in_order(rows):
    return sorted(rows, key=cmp_to_key(goes_first))


def lean_by_sets(width, deeds):
    found = {}
    for size in range(1, len(deeds) + 1):
        for chosen in combinations(range(len(deeds)), size):
            if any(set(known) < set(chosen) for known in found):
                continue
            balance = only_balance(width, deeds, chosen)
            if balance is not None and all(number > 0 for number in balance):
                row = [0] * len(deeds)
                for place, count in zip(chosen, in_lowest_terms(balance)):
                    row[place] = count
                found[chosen] = row
    return in_order(found.values())


def reckoned(works):
    return [(one, lean_by_sets(*one)) for one in works]


@cache
def small_works():
    return reckoned(works_of_every_size(11, 6, 2))


@cache
def larger_works():
    return reckoned(
        draw_works(random.Random(seed), width, many, numbers)
        for seed, width, many, numbers in product(range(2), range(2, 7), (7, 8, 9, 10), (ANY_NUMBER, SMALL_NUMBERS))
    )


@cache
def works_of_kin():
    """Half of the deeds are another one, turned or not, or have no numbers: so there are rounds of few deeds, too."""
    works = []
    for seed in range(30):
        draw = random.Random(seed)
        width, deeds = draw_works(draw, draw.randint(1, 6), 4, (ANY_NUMBER, SMALL_NUMBERS)[seed % 2])
        kin = [[sign * number for number in deed] for deed in deeds for sign in [draw.choice((-1, 0, 1))]]
        works.append((width, draw.sample(deeds + kin, 8)))
    return reckoned(works)


def all_reckoned_works():
    return small_works() + larger_works() + works_of_kin()


def works_of_summed_wares(seed, times):
    """One ware's numbers are the sum of two others', or that sum turned round."""
    draw = random.Random(seed)
    works = []
    for width, many, sign, numbers, _ in product(
        range(3, 7), (0, 1, 2, 3, 5, 8, 10), (1, -1), (range(-4, 5), SMALL_NUMBERS), range(times)
    ):
        _, deeds = draw_works(draw, width, many, numbers)
        one, other, total = draw.sample(range(width), 3)
        for deed in deeds:
            deed[total] = sign * (deed[one] + deed[other])
        works.append((width, deeds))
    return works


def lists_within(value):
    found = [value] if isinstance(value, list) else []
    if isinstance(value, (list, tuple)):
        for part in value:
            found.extend(lists_within(part))
    return found


def spoil(value):
    for found in lists_within(value):
        if found:
            found[0] = "spoilt"
        found.append("spoilt")


def gained(deed, weights):
    return sum(weights[ware] * deed[ware] for ware in range(len(weights)))


class Case(unittest.TestCase):
    def assert_whole(self, number):
        self.assertIs(type(number), int)

    def assert_row(self, told, wanted):
        self.assertIs(type(told), list)
        for number in told:
            self.assert_whole(number)
        self.assertEqual(told, wanted)

    def assert_weights(self, told, width):
        self.assert_row(told, told)
        self.assertEqual(len(told), width)
        self.assertTrue(all(-HIGHEST <= weight <= HIGHEST for weight in told))
        self.assertEqual(gcd(*told), 1)

    def assert_quick(self, ask, works):
        begun = time.perf_counter()
        for one in works:
            ask(*one)
        self.assertLess(time.perf_counter() - begun, 10)

    def assert_apart(self, ask, *handed_in):
        """What is handed in stays; what is told is new; neither, when changed, changes a later answer."""
        kept = copy.deepcopy(handed_in)
        told = ask(*handed_in)
        answer = copy.deepcopy(told)
        self.assertEqual(handed_in, kept)
        self.assertEqual(ask(*handed_in), answer)
        every = lists_within(told)
        self.assertEqual(len({id(found) for found in every}), len(every))
        self.assertFalse({id(found) for found in every} & {id(found) for found in lists_within(handed_in)})
        spoil(told)
        self.assertEqual(handed_in, kept)
        again = ask(*handed_in)
        self.assertEqual(again, answer)
        spoil(handed_in)
        self.assertEqual(again, answer)
        self.assertEqual(ask(*kept), answer)
