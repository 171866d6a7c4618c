import math
import unittest
from fractions import Fraction
from itertools import product

from leanmodes.counts import added, divisor, fraction, lowest

BOUND = 10 ** 60

ROWS = [
    [],
    [0],
    [0, 0, 0],
    [0] * 20,
    [1],
    [-1],
    [7],
    [-7],
    [12, 18],
    [-12, 18],
    [-12, -18],
    [18, 12, 8],
    [6, 10, 15],
    [0, 4, 0, -6, 0],
    [5, 0],
    [0, -5],
    [3, 3, 3],
    [-4, -4],
    [BOUND],
    [-BOUND],
    [BOUND, -BOUND],
    [BOUND, BOUND - 1],
    [-BOUND, 0, 15],
    [6 ** 77, 10 ** 59, -(15 ** 51)],
    [BOUND // 4 * 3, -(BOUND // 8 * 5), BOUND // 2],
    list(range(1, 21)),
    [42 * place for place in range(-10, 10)],
    [(-1) ** place * 7 ** 5 * 2 ** (place + 100) for place in range(20)],
    [BOUND // 10 ** place for place in range(20)],
]

TOPS_AND_BOTTOMS = [
    (top, bottom) for top, bottom in product(range(-13, 14), repeat=2) if bottom != 0
] + [
    (top, bottom)
    for top, bottom in product(
        [-BOUND, 1 - BOUND, -(2 ** 199), -(3 ** 125), 0, 6 ** 77, 5 ** 85, BOUND - 1, BOUND], repeat=2
    )
    if bottom != 0
]

HANDED_IN = [(top, bottom) for top, bottom in product(range(-6, 7), range(1, 8))] + [
    (-BOUND, 1), (-BOUND, BOUND), (BOUND, BOUND - 1), (1, BOUND), (-1, BOUND),
    (6 ** 77, 10 ** 60), (3 ** 125, 2 ** 199), (0, BOUND), (BOUND - 1, 7 ** 70),
]


class Case(unittest.TestCase):
    def assert_whole(self, number):
        self.assertIs(type(number), int)

    def assert_fraction(self, told, wanted):
        self.assertIs(type(told), tuple)
        self.assertEqual(len(told), 2)
        self.assert_whole(told[0])
        self.assert_whole(told[1])
        self.assertEqual(told, (wanted.numerator, wanted.denominator))


class Divisor(Case):
    def test_written_answers(self):
        for row, wanted in [
            ([7], 7), ([-7], 7), ([12, -18], 6), ([12, -18, 0], 6), ([6, 10, 15], 1), ([0, -5, 0], 5),
            ([BOUND, -BOUND], BOUND), ([-BOUND], BOUND), ([BOUND, 15], 5), ([BOUND, BOUND - 1], 1),
        ]:
            with self.subTest(row=row):
                self.assertEqual(divisor(row), wanted)

    def test_noughts_alone_and_the_empty_row_have_0(self):
        for row in ([], [0], [0, 0], [0] * 20):
            with self.subTest(row=row):
                self.assertEqual(divisor(row), 0)

    def test_every_row(self):
        for row in ROWS:
            with self.subTest(row=row):
                told = divisor(row)
                self.assert_whole(told)
                self.assertEqual(told, math.gcd(*row))

    def test_every_short_row_of_small_numbers(self):
        for long in range(4):
            for row in product(range(-9, 10), repeat=long):
                self.assertEqual(divisor(list(row)), math.gcd(*row), row)

    def test_place_and_sign_change_nothing(self):
        for row in ROWS:
            with self.subTest(row=row):
                self.assertEqual(divisor(row[::-1]), divisor(row))
                self.assertEqual(divisor([-number for number in row]), divisor(row))

    def test_the_row_stays_and_the_answer_comes_again(self):
        for row in ROWS:
            with self.subTest(row=row):
                handed_in = list(row)
                told = divisor(handed_in)
                self.assertEqual(handed_in, row)
                self.assertEqual(divisor(handed_in), told)

    def test_a_row_changed_afterwards_is_asked_anew(self):
        row = [4, 6]
        self.assertEqual(divisor(row), 2)
        row.append(3)
        self.assertEqual(divisor(row), 1)
        self.assertEqual(divisor([4, 6]), 2)

    def test_somewhat_beyond_the_bounds_nothing_is_refused(self):
        self.assertEqual(divisor([10 ** 61, -(10 ** 62)]), 10 ** 61)
        self.assertEqual(divisor([6] * 25 + [9]), 3)

    def test_the_argument_has_its_name(self):
        self.assertEqual(divisor(row=[4, 6]), 2)


class Lowest(Case):
    def test_written_answers(self):
        for row, wanted in [
            ([12, -18, 0], [2, -3, 0]), ([7], [1]), ([-7], [-1]), ([-4, -6], [-2, -3]), ([6, 10, 15], [6, 10, 15]),
            ([BOUND, -BOUND, 0], [1, -1, 0]), ([-BOUND, 15], [-(BOUND // 5), 3]), ([0, -5], [0, -1]),
        ]:
            with self.subTest(row=row):
                self.assertEqual(lowest(row), wanted)

    def test_noughts_alone_and_the_empty_row_stay(self):
        for row in ([], [0], [0, 0], [0] * 20):
            with self.subTest(row=row):
                self.assertEqual(lowest(row), row)

    def test_every_row(self):
        for row in ROWS:
            with self.subTest(row=row):
                told = lowest(row)
                self.assertIs(type(told), list)
                self.assertEqual(len(told), len(row))
                common = math.gcd(*row)
                for number, before in zip(told, row):
                    self.assert_whole(number)
                    self.assertEqual(number * common, before)
                self.assertEqual(math.gcd(*told), 1 if any(row) else 0)

    def test_lowest_of_lowest_is_the_same(self):
        for row in ROWS:
            with self.subTest(row=row):
                self.assertEqual(lowest(lowest(row)), lowest(row))

    def test_the_told_list_is_new(self):
        for row in ROWS:
            with self.subTest(row=row):
                handed_in = list(row)
                told = lowest(handed_in)
                kept = list(told)
                self.assertIsNot(told, handed_in)
                told.append(99)
                told[0] = 98
                self.assertEqual(handed_in, row)
                again = lowest(handed_in)
                self.assertEqual(again, kept)
                self.assertIsNot(again, told)

    def test_changing_the_row_afterwards_changes_no_answer(self):
        for row in ROWS:
            with self.subTest(row=row):
                handed_in = list(row)
                told = lowest(handed_in)
                kept = list(told)
                handed_in.append(5)
                handed_in[0] = 11
                self.assertEqual(told, kept)
                self.assertEqual(lowest(list(row)), kept)

    def test_somewhat_beyond_the_bounds_nothing_is_refused(self):
        self.assertEqual(lowest([10 ** 61, -(10 ** 62)]), [1, -10])
        self.assertEqual(lowest([6] * 25 + [-9]), [2] * 25 + [-3])

    def test_the_argument_has_its_name(self):
        self.assertEqual(lowest(row=[4, 6]), [2, 3])


class Fractions(Case):
    def test_written_answers(self):
        for top, bottom, wanted in [
            (6, 4, (3, 2)), (-6, 4, (-3, 2)), (6, -4, (-3, 2)), (-6, -4, (3, 2)), (3, 1, (3, 1)), (3, -1, (-3, 1)),
            (5, 5, (1, 1)), (-5, 5, (-1, 1)), (1, 7, (1, 7)), (BOUND, -15, (-(BOUND // 5), 3)),
            (-BOUND, -BOUND, (1, 1)), (BOUND - 1, BOUND, (BOUND - 1, BOUND)),
        ]:
            with self.subTest(top=top, bottom=bottom):
                self.assertEqual(fraction(top, bottom), wanted)

    def test_nought(self):
        for bottom in (1, -1, 2, -7, BOUND, -BOUND):
            with self.subTest(bottom=bottom):
                self.assertEqual(fraction(0, bottom), (0, 1))

    def test_every_top_and_bottom(self):
        for top, bottom in TOPS_AND_BOTTOMS:
            with self.subTest(top=top, bottom=bottom):
                self.assert_fraction(fraction(top, bottom), Fraction(top, bottom))
                self.assertEqual(fraction(top, bottom), fraction(top, bottom))

    def test_somewhat_beyond_the_bounds_nothing_is_refused(self):
        self.assertEqual(fraction(10 ** 62, -(10 ** 61)), (-10, 1))

    def test_the_arguments_have_their_names(self):
        self.assertEqual(fraction(bottom=-4, top=6), (-3, 2))


class Added(Case):
    def test_written_answers(self):
        for one, other, wanted in [
            ((1, 2), (1, 3), (5, 6)), ((1, 6), (1, 3), (1, 2)), ((1, 2), (-1, 2), (0, 1)), ((2, 4), (-3, 6), (0, 1)),
            ((0, 1), (0, 1), (0, 1)), ((0, 5), (0, 7), (0, 1)), ((0, 3), (4, 6), (2, 3)), ((-1, 2), (-1, 2), (-1, 1)),
            ((2, 4), (3, 6), (1, 1)), ((1, 4), (-1, 2), (-1, 4)), ((BOUND, 1), (-BOUND, 1), (0, 1)),
            ((BOUND, 1), (1, BOUND), (BOUND ** 2 + 1, BOUND)), ((1, BOUND), (1, BOUND), (1, BOUND // 2)),
        ]:
            with self.subTest(one=one, other=other):
                self.assertEqual(added(one, other), wanted)

    def test_every_pair(self):
        for one, other in product(HANDED_IN, repeat=2):
            with self.subTest(one=one, other=other):
                self.assert_fraction(added(one, other), Fraction(*one) + Fraction(*other))

    def test_a_fraction_and_its_counterpart_make_nought(self):
        for top, bottom in HANDED_IN:
            with self.subTest(top=top, bottom=bottom):
                self.assertEqual(added((top, bottom), (-3 * top, 3 * bottom)), (0, 1))

    def test_the_tuples_stay_and_the_answer_comes_again(self):
        one = (2, 4)
        other = (-6, 9)
        self.assertEqual(added(one, other), (-1, 6))
        self.assertEqual((one, other), ((2, 4), (-6, 9)))
        self.assertEqual(added(one, other), (-1, 6))
        self.assertEqual(added(one, one), (1, 1))

    def test_somewhat_beyond_the_bounds_nothing_is_refused(self):
        self.assertEqual(added((10 ** 62, 10 ** 61), (-(10 ** 63), 10 ** 61)), (-90, 1))

    def test_the_arguments_have_their_names(self):
        self.assertEqual(added(other=(1, 3), one=(1, 2)), (5, 6))


if __name__ == "__main__":
    unittest.main()
