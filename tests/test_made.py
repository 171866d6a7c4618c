import random
from fractions import Fraction
from math import gcd

from drawn import (
    ANY_NUMBER, EXAMPLE, HIGHEST, SMALL_NUMBERS, Case, draw_works, goes_first, in_lowest_terms, lean_by_sets,
    works_of_ten_deeds,
)

from leanmodes.made import joined, made_of

BOUND = 10 ** 60


def drawn_rounds(seed, many):
    """Works with their lean rounds and some of their rounds, a few in lowest terms so that fractions are wanted."""
    draw = random.Random(seed)
    while many > 0:
        width, deeds = draw_works(draw, draw.randint(0, 5), draw.randint(2, 8), draw.choice((ANY_NUMBER, SMALL_NUMBERS)))
        rows = lean_by_sets(width, deeds)
        if not rows:
            continue
        many -= 1
        for parts in (1, 2, 3, len(rows)):
            chosen = [draw.choice(rows) for _ in range(parts)]
            times = [draw.choice((1, 1, 2, 7)) for _ in chosen]
            counts = [sum(time * row[place] for time, row in zip(times, chosen)) for place in range(len(deeds))]
            low = in_lowest_terms(counts)
            for found in (counts, low, [HIGHEST // max(low) * count for count in low]):
                if max(found) <= HIGHEST:
                    yield width, deeds, rows, found


class MadeOf(Case):
    def assert_parts(self, width, deeds, rows, counts):
        told = made_of(width, deeds, counts)
        self.assertIs(type(told), list)
        sums = [Fraction(0)] * len(deeds)
        for part in told:
            self.assertIs(type(part), tuple)
            top, bottom, row = part
            self.assert_whole(top)
            self.assert_whole(bottom)
            self.assertGreater(top, 0)
            self.assertGreater(bottom, 0)
            self.assertEqual(gcd(top, bottom), 1)
            self.assert_row(row, row)
            self.assertIn(row, rows)
            sums = [total + Fraction(top, bottom) * count for total, count in zip(sums, row)]
        self.assertEqual(sums, counts)
        self.assertLessEqual(len(told), len([count for count in counts if count > 0]))
        for one, other in zip(told, told[1:]):
            self.assertEqual(goes_first(one[2], other[2]), -1)
        self.assertEqual(joined(len(deeds), told), [(count, 1) for count in counts])
        return told

    def test_written_answers(self):
        for width, deeds, counts, wanted in [
            (*EXAMPLE, [5, 3, 2, 1], [(1, 1, [3, 2, 2, 0]), (1, 1, [2, 1, 0, 1])]),
            (*EXAMPLE, [3, 2, 2, 0], [(1, 1, [3, 2, 2, 0])]),
            (*EXAMPLE, [4, 2, 0, 2], [(2, 1, [2, 1, 0, 1])]),
            (*EXAMPLE, [7, 4, 2, 2], [(1, 1, [3, 2, 2, 0]), (2, 1, [2, 1, 0, 1])]),
            (*EXAMPLE, [11, 7, 6, 1], [(3, 1, [3, 2, 2, 0]), (1, 1, [2, 1, 0, 1])]),
            (1, [[1], [1], [-2]], [1, 1, 1], [(1, 2, [2, 0, 1]), (1, 2, [0, 2, 1])]),
            (1, [[1], [1], [-3]], [5, 1, 2], [(5, 3, [3, 0, 1]), (1, 3, [0, 3, 1])]),
            (1, [[1], [-1]], [HIGHEST, HIGHEST], [(HIGHEST, 1, [1, 1])]),
            (1, [[1], [-1], [0]], [HIGHEST, HIGHEST, 1], [(HIGHEST, 1, [1, 1, 0]), (1, 1, [0, 0, 1])]),
            (0, [[]], [8], [(8, 1, [1])]),
            (0, [[], [], []], [2, 0, HIGHEST], [(2, 1, [1, 0, 0]), (HIGHEST, 1, [0, 0, 1])]),
            (0, [[]] * 10, [3] * 10, [(3, 1, [0] * place + [1] + [0] * (9 - place)) for place in range(10)]),
        ]:
            with self.subTest(deeds=deeds, counts=counts):
                self.assertEqual(made_of(width, deeds, counts), wanted)

    def test_several_ways(self):
        works = (1, [[1], [1], [-1], [-1]])
        rows = lean_by_sets(*works)
        for counts in ([1, 1, 1, 1], [2, 1, 1, 2], [1, 3, 2, 2], [HIGHEST, 1, 1, HIGHEST], [5, 0, 2, 3]):
            with self.subTest(counts=counts):
                self.assert_parts(*works, rows, counts)

    def test_drawn_rounds(self):
        wanting = 0
        for width, deeds, rows, counts in drawn_rounds(21, 150):
            with self.subTest(width=width, deeds=deeds, counts=counts):
                told = self.assert_parts(width, deeds, rows, counts)
                wanting += any(bottom > 1 for top, bottom, row in told)
        self.assertGreater(wanting, 100)

    def test_ten_deeds(self):
        for width, deeds in works_of_ten_deeds():
            rows = lean_by_sets(width, deeds)
            counts = in_lowest_terms([sum(column) for column in zip(*rows)])
            self.assert_parts(width, deeds, rows, counts)
            self.assert_parts(width, deeds, rows, [HIGHEST // max(counts) * count for count in counts])

    def test_apart(self):
        for counts in ([5, 3, 2, 1], [3, 2, 2, 0], [7, 4, 2, 2]):
            self.assert_apart(made_of, 2, [list(row) for row in EXAMPLE[1]], counts)
        self.assert_apart(made_of, 1, [[1], [1], [-2]], [1, 1, 1])
        self.assert_apart(made_of, 0, [[], []], [2, 3])

    def test_the_arguments_have_their_names(self):
        self.assertEqual(made_of(counts=[2, 2], deeds=[[1], [-1]], width=1), [(2, 1, [1, 1])])


class Joined(Case):
    def assert_joined(self, many, parts):
        told = joined(many, parts)
        self.assertIs(type(told), list)
        self.assertEqual(len(told), many)
        for place, share in enumerate(told):
            wanted = sum((Fraction(top, bottom) * row[place] for top, bottom, row in parts), Fraction(0))
            self.assertIs(type(share), tuple)
            self.assertEqual(share, (wanted.numerator, wanted.denominator))
            self.assert_whole(share[0])
            self.assert_whole(share[1])

    def test_written_answers(self):
        for many, parts, wanted in [
            (0, [], []),
            (1, [], [(0, 1)]),
            (3, [], [(0, 1), (0, 1), (0, 1)]),
            (0, [(1, 2, [])], []),
            (2, [(1, 2, [3, 0])], [(3, 2), (0, 1)]),
            (2, [(2, 4, [2, 5])], [(1, 1), (5, 2)]),
            (2, [(-3, 6, [1, 4])], [(-1, 2), (-2, 1)]),
            (2, [(0, 7, [1, 4])], [(0, 1), (0, 1)]),
            (2, [(1, 2, [1, 0]), (1, 3, [1, 1])], [(5, 6), (1, 3)]),
            (2, [(1, 2, [1, 3]), (-2, 4, [1, 1])], [(0, 1), (1, 1)]),
            (1, [(1, 20, [1])] * 20, [(1, 1)]),
            (1, [(BOUND, 1, [HIGHEST]), (-BOUND, 1, [HIGHEST])], [(0, 1)]),
            (1, [(1, BOUND, [HIGHEST])], [(HIGHEST, BOUND)]),
        ]:
            with self.subTest(many=many, parts=parts):
                self.assertEqual(joined(many, parts), wanted)

    def test_drawn_parts(self):
        draw = random.Random(22)
        for many in range(11):
            for length in (0, 1, 2, 3, 7, 20):
                for bound in (6, 10 ** 9, BOUND):
                    parts = [
                        (
                            draw.randint(-bound, bound), draw.randint(1, bound),
                            [draw.choice((0, 1, draw.randint(0, 99), draw.randint(0, HIGHEST))) for _ in range(many)],
                        )
                        for _ in range(length)
                    ]
                    self.assert_joined(many, parts)

    def test_apart(self):
        self.assert_apart(joined, 2, [(1, 2, [1, 3]), (-2, 4, [1, 1])])
        self.assert_apart(joined, 3, [])
        self.assert_apart(joined, 0, [])

    def test_the_arguments_have_their_names(self):
        self.assertEqual(joined(parts=[(1, 2, [1])], many=1), [(1, 2)])
