import random
from itertools import product

from drawn import (
    EXAMPLE, SMALL_NUMBERS, Case, all_reckoned_works, draw_works, gained, largest_works, rank, works_of_summed_wares,
)

from leanmodes.stays import staying


class Staying(Case):
    def assert_staying(self, width, deeds):
        told = staying(width, deeds)
        with self.subTest(width=width, deeds=deeds, told=told):
            self.assertIs(type(told), list)
            for weights in told:
                self.assert_weights(weights, width)
                self.assertEqual([gained(deed, weights) for deed in deeds], [0] * len(deeds))
            self.assertEqual(len(told), width - rank(deeds, width))
            self.assertEqual(rank(told, width), len(told))
        return told

    def test_written_works(self):
        for width, deeds, many in [
            (*EXAMPLE, 0),
            (0, [], 0),
            (0, [[], []], 0),
            (1, [[0]], 1),
            (1, [[3]], 0),
            (2, [[1, -1]], 1),
            (2, [[1, -1], [-2, 2], [0, 0]], 1),
            (2, [[1, -1], [1, 0]], 0),
            (3, [[1, -1, 0], [0, 1, -1]], 1),
            (3, [[2, 1, 3], [-1, 4, 3]], 1),
            (6, [[1, 1, 1, 1, 1, 1]], 5),
        ]:
            with self.subTest(width=width, deeds=deeds):
                self.assertEqual(len(self.assert_staying(width, deeds)), many)

    def test_where_one_row_alone_can_be_told_it_is_told_with_either_sign(self):
        for width, deeds, weights in [
            (1, [], [1]),
            (1, [[0]], [1]),
            (2, [[1, -1]], [1, 1]),
            (2, [[4, -6], [-2, 3]], [3, 2]),
            (3, [[2, 1, 3], [-1, 4, 3]], [1, 1, -1]),
            (3, [[1, -1, 0], [0, 1, -1]], [1, 1, 1]),
            (4, [[9, 0, 0, -1], [0, 9, 0, -1], [0, 0, 9, -1]], [1, 1, 1, 9]),
        ]:
            with self.subTest(deeds=deeds):
                told = self.assert_staying(width, deeds)
                self.assertIn(told, ([weights], [[-weight for weight in weights]]))

    def test_without_deeds_there_are_as_many_rows_as_wares(self):
        for width in range(7):
            self.assertEqual(len(self.assert_staying(width, [])), width)

    def test_deeds_of_noughts_alone(self):
        for width, many in product(range(7), (1, 2, 10)):
            self.assertEqual(len(self.assert_staying(width, [[0] * width for _ in range(many)])), width)

    def test_drawn_works(self):
        for works, _ in all_reckoned_works():
            self.assert_staying(*works)

    def test_few_deeds(self):
        draw = random.Random(41)
        for width, many, _ in product(range(1, 7), range(1, 6), range(5)):
            self.assert_staying(*draw_works(draw, width, many, range(-9, 10)))
            self.assert_staying(*draw_works(draw, width, many, SMALL_NUMBERS))

    def test_a_ware_whose_numbers_are_the_sum_of_two_others(self):
        for width, deeds in works_of_summed_wares(42, 3):
            self.assertGreater(len(self.assert_staying(width, deeds)), 0)

    def test_high_numbers_keep_the_bounds(self):
        draw = random.Random(43)
        high = 0
        for _ in range(60):
            deeds = [[draw.choice((-9, -8, -7, 7, 8, 9)) for _ in range(6)] for _ in range(5)]
            for weights in self.assert_staying(6, deeds):
                high = max(high, *[abs(weight) for weight in weights])
        self.assertGreater(high, 10 ** 5)

    def test_six_wares_and_ten_deeds_are_answered_quickly(self):
        self.assert_quick(staying, largest_works() + works_of_summed_wares(44, 1))

    def test_somewhat_beyond_the_bounds_nothing_is_refused(self):
        self.assert_staying(*draw_works(random.Random(45), 8, 5, range(-12, 13)))
        self.assert_staying(*draw_works(random.Random(46), 3, 12, range(-12, 13)))

    def test_apart(self):
        for width, deeds in [EXAMPLE, (4, []), (3, [[1, -1, 0]]), (0, [[]]), (2, [[0, 0], [0, 0]]), (1, [[0]])]:
            self.assert_apart(staying, width, [list(row) for row in deeds])

    def test_asked_again_the_same_comes(self):
        works = works_of_summed_wares(47, 1)
        first = [staying(*one) for one in works]
        self.assertEqual([staying(*one) for one in reversed(works)], first[::-1])

    def test_the_arguments_have_their_names(self):
        self.assertEqual(staying(deeds=[[3]], width=1), [])
