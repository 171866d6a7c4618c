import random
from itertools import product
from math import gcd

from drawn import (
    ANY_NUMBER, EXAMPLE, HIGHEST, SMALL_NUMBERS, Case, draw_works, goes_first, larger_works, largest_works,
    lean_by_sets, small_works, works_of_kin, works_of_ten_deeds,
)

from leanmodes.lean import avoiding, is_lean, lean_rounds

WRITTEN = [
    (*EXAMPLE, [[3, 2, 2, 0], [2, 1, 0, 1]]),
    (0, [], []),
    (4, [], []),
    (0, [[]], [[1]]),
    (0, [[], [], []], [[1, 0, 0], [0, 1, 0], [0, 0, 1]]),
    (0, [[]] * 10, [[0] * place + [1] + [0] * (9 - place) for place in range(10)]),
    (1, [[1]], []),
    (1, [[0]], [[1]]),
    (1, [[1], [2], [0]], [[0, 0, 1]]),
    (1, [[4], [-6]], [[3, 2]]),
    (1, [[2], [2], [-1]], [[1, 0, 2], [0, 1, 2]]),
    (1, [[-1], [1], [2], [0]], [[1, 1, 0, 0], [2, 0, 1, 0], [0, 0, 0, 1]]),
    (2, [[3, -5], [-3, 5], [3, -5]], [[1, 1, 0], [0, 1, 1]]),
    (6, [[0] * 6, [0] * 6], [[1, 0], [0, 1]]),
    (2, [[1, 0], [0, 1], [-1, -1], [0, 0]], [[1, 1, 1, 0], [0, 0, 0, 1]]),
]

# Each deed uses up nine of the ware that the deed behind it makes one of.
CHAIN = (6, [[-9 if at == place else 1 if at == place - 1 else 0 for at in range(6)] for place in range(7)])


class LeanRounds(Case):
    def assert_rounds(self, told, wanted):
        self.assertIs(type(told), list)
        for row in told:
            self.assert_row(row, row)
        self.assertEqual(told, wanted)

    def test_written_answers(self):
        for width, deeds, wanted in WRITTEN:
            with self.subTest(width=width, deeds=deeds):
                self.assert_rounds(lean_rounds(width, deeds), wanted)

    def test_high_counts(self):
        self.assert_rounds(lean_rounds(*CHAIN), [[9 ** place for place in range(7)]])
        draw = random.Random(8)
        for seed in range(10):
            deeds = [[draw.choice((-9, -8, -7, 7, 8, 9)) for _ in range(6)] for _ in range(6)]
            deeds.append([-sum(deed[ware] for deed in deeds) // 6 for ware in range(6)])
            self.assert_rounds(lean_rounds(6, deeds), lean_by_sets(6, deeds))

    def test_small_drawn_works_of_every_size_against_all_sets(self):
        for (width, deeds), wanted in small_works():
            with self.subTest(width=width, deeds=deeds):
                self.assert_rounds(lean_rounds(width, deeds), wanted)

    def test_larger_drawn_works_against_all_sets(self):
        for (width, deeds), wanted in larger_works():
            with self.subTest(width=width, deeds=deeds):
                self.assert_rounds(lean_rounds(width, deeds), wanted)

    def test_deeds_that_are_kin_against_all_sets(self):
        for (width, deeds), wanted in works_of_kin():
            with self.subTest(width=width, deeds=deeds):
                self.assert_rounds(lean_rounds(width, deeds), wanted)

    def test_ten_deeds_against_all_sets(self):
        for width, deeds in works_of_ten_deeds():
            with self.subTest(width=width, deeds=deeds):
                told = lean_rounds(width, deeds)
                self.assert_rounds(told, lean_by_sets(width, deeds))
                self.assertGreater(len(told), 10)

    def test_against_all_rows_of_small_counts(self):
        # With two wares and numbers of 0, 1, -1 no count of a lean round is above 2.
        rows = [row for row in product(range(3), repeat=3) if any(row)]
        for deeds in product(product(SMALL_NUMBERS, repeat=2), repeat=3):
            even = [
                row for row in rows
                if all(sum(count * deed[ware] for count, deed in zip(row, deeds)) == 0 for ware in range(2))
            ]
            having = [{place for place in range(3) if row[place]} for row in even]
            wanted = [
                list(row) for row, used in zip(even, having)
                if gcd(*row) == 1 and not any(fewer < used for fewer in having)
            ]
            told = lean_rounds(2, [list(deed) for deed in deeds])
            self.assertEqual(sorted(told), sorted(wanted), deeds)

    def test_order_terms_bound_and_none_twice(self):
        draw = random.Random(5)
        works = [draw_works(draw, draw.randint(0, 6), draw.randint(0, 10), ANY_NUMBER) for _ in range(200)]
        works += [draw_works(draw, draw.randint(0, 6), draw.randint(0, 10), SMALL_NUMBERS) for _ in range(200)]
        for width, deeds in works:
            told = lean_rounds(width, deeds)
            for one, other in zip(told, told[1:]):
                self.assertEqual(goes_first(one, other), -1)
            for row in told:
                self.assertEqual(len(row), len(deeds))
                self.assertEqual(gcd(*row), 1)
                self.assertTrue(all(0 <= count <= HIGHEST for count in row))
                for ware in range(width):
                    self.assertEqual(sum(count * deed[ware] for count, deed in zip(row, deeds)), 0)

    def test_six_wares_and_ten_deeds_are_answered_quickly(self):
        self.assert_quick(lean_rounds, largest_works())

    def test_somewhat_beyond_the_bounds_nothing_is_refused(self):
        self.assertEqual(lean_rounds(1, [[10], [-12]]), [[6, 5]])
        width, deeds = draw_works(random.Random(7), 7, 9, range(-11, 12))
        self.assertEqual(lean_rounds(width, deeds), lean_by_sets(width, deeds))
        self.assertEqual(len(lean_rounds(1, [[1]] * 6 + [[-1]] * 6)), 36)

    def test_apart(self):
        for width, deeds, _ in WRITTEN:
            self.assert_apart(lean_rounds, width, [list(row) for row in deeds])
        for (width, deeds), _ in works_of_kin()[:10]:
            self.assert_apart(lean_rounds, width, [list(row) for row in deeds])

    def test_works_asked_in_between_change_nothing(self):
        first = lean_rounds(*EXAMPLE)
        lean_rounds(1, [[1], [-1]])
        lean_rounds(2, [[0, 0]] * 4)
        self.assertEqual(lean_rounds(*EXAMPLE), first)

    def test_the_arguments_have_their_names(self):
        self.assertEqual(lean_rounds(deeds=[[1], [-1]], width=1), [[1, 1]])


class IsLean(Case):
    def test_lean_rounds_and_their_multiples_are_lean(self):
        for width, deeds, rows in WRITTEN:
            for row in rows:
                for times in (1, 2, 3, 10 ** 9):
                    with self.subTest(deeds=deeds, row=row, times=times):
                        self.assertIs(is_lean(width, deeds, [times * count for count in row]), True)

    def test_written_rounds_that_can_spare_a_deed(self):
        for width, deeds, counts in [
            (*EXAMPLE, [5, 3, 2, 1]),
            (*EXAMPLE, [HIGHEST // 5 * 5, HIGHEST // 5 * 3, HIGHEST // 5 * 2, HIGHEST // 5]),
            (0, [[], []], [1, 1]),
            (1, [[0], [0]], [1, 1]),
            (1, [[0], [1], [-1]], [1, 1, 1]),
            (1, [[1], [1], [-1]], [1, 1, 2]),
            (2, [[3, -5], [-3, 5], [3, -5]], [1, 2, 1]),
            (2, [[1, 0], [0, 1], [-1, -1], [0, 0]], [1, 1, 1, HIGHEST]),
        ]:
            with self.subTest(deeds=deeds, counts=counts):
                self.assertIs(is_lean(width, deeds, counts), False)

    def test_what_is_no_round_is_not_lean(self):
        for width, deeds, counts in [
            (*EXAMPLE, [0, 0, 0, 0]),
            (*EXAMPLE, [1, 0, 0, 0]),
            (*EXAMPLE, [3, 2, 1, 0]),
            (*EXAMPLE, [4, 2, 2, 0]),
            (*EXAMPLE, [1, 1, 1, 0]),
            (*EXAMPLE, [2, 1, 0, 2]),
            (0, [], []),
            (3, [], []),
            (0, [[], []], [0, 0]),
            (1, [[0]], [0]),
            (1, [[1], [-1]], [1, 2]),
            (1, [[1], [-1]], [HIGHEST, HIGHEST - 1]),
        ]:
            with self.subTest(deeds=deeds, counts=counts):
                self.assertIs(is_lean(width, deeds, counts), False)

    def test_deeds_without_numbers_the_same_deed_twice_and_a_turned_one(self):
        self.assertIs(is_lean(3, [[0, 0, 0], [1, 2, 3]], [4, 0]), True)
        self.assertIs(is_lean(3, [[1, -2, 3], [1, -2, 3]], [1, 1]), False)
        self.assertIs(is_lean(3, [[1, -2, 3], [-1, 2, -3]], [7, 7]), True)
        self.assertIs(is_lean(3, [[1, -2, 3], [1, -2, 3], [-1, 2, -3]], [0, 7, 7]), True)
        self.assertIs(is_lean(3, [[1, -2, 3], [1, -2, 3], [-1, 2, -3]], [1, 6, 7]), False)

    def test_drawn_works(self):
        draw = random.Random(12)
        for (width, deeds), rows in small_works() + larger_works() + works_of_kin():
            for row in rows[:5]:
                times = draw.choice((1, 2, 3, 10 ** 9))
                self.assertIs(is_lean(width, deeds, [times * count for count in row]), True)
                other = draw.choice(rows)
                both = [times * count + draw_count for count, draw_count in zip(row, other)]
                self.assertIs(is_lean(width, deeds, both), other == row)
            counts = [draw.randint(0, 2) for _ in deeds]
            even = all(sum(count * deed[ware] for count, deed in zip(counts, deeds)) == 0 for ware in range(width))
            wanted = even and [count > 0 for count in counts] in [[count > 0 for count in row] for row in rows]
            self.assertIs(is_lean(width, deeds, counts), wanted)

    def test_apart(self):
        for counts in ([3, 2, 2, 0], [5, 3, 2, 1], [1, 0, 0, 0], [0, 0, 0, 0]):
            self.assert_apart(is_lean, 2, [list(row) for row in EXAMPLE[1]], counts)

    def test_the_arguments_have_their_names(self):
        self.assertIs(is_lean(counts=[2, 2], deeds=[[1], [-1]], width=1), True)


class Avoiding(Case):
    def test_written_answers(self):
        for place, others, wanted in [
            (0, [], [[3, 2, 2, 0], [2, 1, 0, 1]]),
            (0, [2], [[2, 1, 0, 1]]),
            (0, [3], [[3, 2, 2, 0]]),
            (2, [], [[3, 2, 2, 0]]),
            (2, [3], [[3, 2, 2, 0]]),
            (2, [0], []),
            (0, [2, 3], []),
            (3, [2, 2, 2], [[2, 1, 0, 1]]),
            (3, [2] * 20, [[2, 1, 0, 1]]),
            (3, [2] * 19 + [1], []),
            (3, [3], []),
            (0, [0], []),
            (0, [2, 0], []),
        ]:
            with self.subTest(place=place, others=others):
                self.assertEqual(avoiding(*EXAMPLE, place, others), wanted)

    def test_without_wares(self):
        self.assertEqual(avoiding(0, [[], []], 1, []), [[0, 1]])
        self.assertEqual(avoiding(0, [[], []], 1, [0]), [[0, 1]])
        self.assertEqual(avoiding(0, [[], []], 1, [0, 1]), [])

    def test_drawn_works(self):
        draw = random.Random(13)
        for (width, deeds), rows in larger_works() + works_of_kin():
            for place in range(len(deeds)):
                for many in (0, 1, 2, 3, 20):
                    choose = [draw.randrange(len(deeds)) for _ in range(min(many, 3))]
                    others = [draw.choice(choose) for _ in range(many)]
                    wanted = [row for row in rows if row[place] and not any(row[other] for other in others)]
                    told = avoiding(width, deeds, place, others)
                    self.assertEqual(told, wanted, (width, deeds, place, others))
                    if place in others:
                        self.assertEqual(told, [])

    def test_apart(self):
        for place, others in [(0, []), (0, [2]), (1, [3, 3]), (2, [2])]:
            self.assert_apart(avoiding, 2, [list(row) for row in EXAMPLE[1]], place, others)

    def test_the_arguments_have_their_names(self):
        self.assertEqual(avoiding(others=[], place=1, deeds=[[1], [-1]], width=1), [[1, 1]])
