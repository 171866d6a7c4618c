import random

from drawn import (
    ANY_NUMBER, EXAMPLE, HIGHEST, SMALL_NUMBERS, Case, all_reckoned_works, draw_works, gained, largest_works,
    lean_by_sets, works_of_every_size, works_of_ten_deeds,
)

from leanmodes.bars import barring, gains


class Gains(Case):
    def test_written_answers(self):
        for deeds, weights, wanted in [
            (EXAMPLE[1], [1, 3], [2, 0, -3, -4]),
            (EXAMPLE[1], [0, -1], [0, -1, 1, 1]),
            (EXAMPLE[1], [0, 0], [0, 0, 0, 0]),
            (EXAMPLE[1], [HIGHEST, -HIGHEST], [2 * HIGHEST, -4 * HIGHEST, HIGHEST, 0]),
            ([[9] * 6, [-9] * 6], [HIGHEST] * 6, [54 * HIGHEST, -54 * HIGHEST]),
            ([[9] * 6, [-9] * 6], [-HIGHEST] * 6, [-54 * HIGHEST, 54 * HIGHEST]),
            ([[0, 0, 0]], [5, -6, 7], [0]),
            ([], [], []),
            ([], [4, -5], []),
            ([[], [], []], [], [0, 0, 0]),
        ]:
            with self.subTest(deeds=deeds, weights=weights):
                self.assert_row(gains(deeds, weights), wanted)

    def test_drawn_works(self):
        draw = random.Random(31)
        for width, deeds in works_of_every_size(32, 10, 2):
            for weights in (
                [0] * width,
                [draw.randint(-5, 5) for _ in range(width)],
                [draw.choice((-HIGHEST, -1, 0, 1, HIGHEST)) for _ in range(width)],
                [draw.randint(-HIGHEST, HIGHEST) for _ in range(width)],
            ):
                self.assert_row(gains(deeds, weights), [gained(deed, weights) for deed in deeds])

    def test_apart(self):
        for deeds, weights in [(EXAMPLE[1], [1, 3]), ([], []), ([], [4]), ([[], []], [])]:
            self.assert_apart(gains, [list(row) for row in deeds], list(weights))

    def test_the_arguments_have_their_names(self):
        self.assertEqual(gains(weights=[2], deeds=[[3], [-4]]), [6, -8])


class Barring(Case):
    def assert_barring(self, width, deeds, rows):
        """Of every deed; answers how many are barred."""
        barred = 0
        for place, deed in enumerate(deeds):
            told = barring(width, deeds, place)
            with self.subTest(width=width, deeds=deeds, place=place, told=told):
                if any(row[place] > 0 for row in rows):
                    self.assertIsNone(told)
                else:
                    barred += 1
                    self.assertIsNotNone(told)
                    self.assert_weights(told, width)
                    self.assertGreater(gained(deed, told), 0)
                    self.assertTrue(all(gained(other, told) >= 0 for other in deeds))
        return barred

    def test_written_works(self):
        for width, deeds, places_barred in [
            (*EXAMPLE, []),
            (2, [[2, 0], [0, -1], [-1, -1]], [0, 1, 2]),
            (2, [[2, 0], [-3, 1], [-1, -1]], []),
            (1, [[1]], [0]),
            (1, [[-9]], [0]),
            (1, [[0]], []),
            (6, [[0] * 6], []),
            (6, [[0, 0, 0, 0, 0, -4]], [0]),
            (6, [[9, -9, 9, -9, 9, -9]], [0]),
            (1, [[4], [6], [0]], [0, 1]),
            (1, [[4], [-6], [0]], []),
            (2, [[1, 0], [-1, 0], [0, 1], [0, 0]], [2]),
            (2, [[1, 0], [-1, 0], [5, 1], [-7, 2], [0, 0]], [2, 3]),
            (2, [[1, 0], [-1, 0], [5, 1], [-7, -2], [0, 0]], []),
            (3, [[1, -1, 0], [0, 1, -1], [-1, 0, 1], [1, 1, -1]], [3]),
            (2, [[3, -5], [3, -5], [3, -5]], [0, 1, 2]),
        ]:
            with self.subTest(width=width, deeds=deeds):
                self.assert_barring(width, deeds, lean_by_sets(width, deeds))
                told = [barring(width, deeds, place) for place in range(len(deeds))]
                self.assertEqual([place for place, found in enumerate(told) if found is not None], places_barred)

    def test_where_one_row_alone_is_right_it_is_told(self):
        for width, deeds, place, wanted in [
            (1, [[7]], 0, [1]),
            (1, [[-7], [-2]], 1, [-1]),
            (2, [[4, -6], [-4, 6], [1, 0]], 2, [3, 2]),
            (2, [[4, -6], [-4, 6], [0, -1]], 2, [-3, -2]),
            (3, [[1, -1, 0], [0, 1, -1], [-1, 0, 1], [1, 1, -1]], 3, [1, 1, 1]),
        ]:
            with self.subTest(deeds=deeds, place=place):
                self.assert_row(barring(width, deeds, place), wanted)

    def test_without_wares(self):
        for many in range(1, 11):
            for place in range(many):
                self.assertIsNone(barring(0, [[] for _ in range(many)], place))

    def test_works_of_one_deed(self):
        draw = random.Random(33)
        for width in range(1, 7):
            for _ in range(20):
                _, deeds = draw_works(draw, width, 1, draw.choice((ANY_NUMBER, SMALL_NUMBERS)))
                self.assertEqual(self.assert_barring(width, deeds, []) if any(deeds[0]) else 1, 1)
            self.assertIsNone(barring(width, [[0] * width], 0))

    def test_drawn_works(self):
        barred = 0
        for (width, deeds), rows in all_reckoned_works():
            barred += self.assert_barring(width, deeds, rows)
        self.assertGreater(barred, 500)

    def test_ten_deeds(self):
        for width, deeds in works_of_ten_deeds():
            self.assert_barring(width, deeds, lean_by_sets(width, deeds))

    def test_deeds_that_all_gain_by_hidden_weights(self):
        # So every deed but those that gain nothing is barred, whatever the size.
        draw = random.Random(34)
        for numbers in (ANY_NUMBER, SMALL_NUMBERS):
            for width in range(1, 7):
                hidden = [draw.choice((-3, -1, 1, 2)) for _ in range(width)]
                drawn = [[draw.choice(numbers) for _ in range(width)] for _ in range(60)]
                deeds = [deed for deed in drawn if gained(deed, hidden) >= 0][:10]
                barred = self.assert_barring(width, deeds, lean_by_sets(width, deeds))
                self.assertGreaterEqual(barred, len([deed for deed in deeds if gained(deed, hidden) > 0]))

    def test_high_numbers_keep_the_bounds(self):
        draw = random.Random(35)
        high = 0
        for _ in range(60):
            deeds = [[draw.choice((-9, -8, -7, 7, 8, 9)) for _ in range(6)] for _ in range(draw.randint(6, 8))]
            self.assert_barring(6, deeds, lean_by_sets(6, deeds))
            for place in range(len(deeds)):
                high = max([high] + [abs(weight) for weight in barring(6, deeds, place) or []])
        self.assertGreater(high, 10000)

    def test_six_wares_and_ten_deeds_are_answered_quickly(self):
        self.assert_quick(barring, [(*works, place) for works in largest_works() for place in (0, 4, 9)])

    def test_somewhat_beyond_the_bounds_nothing_is_refused(self):
        width, deeds = draw_works(random.Random(36), 7, 11, range(-12, 13))
        self.assert_barring(width, deeds, lean_by_sets(width, deeds))

    def test_apart(self):
        barred = [[2, 0], [0, -1], [-1, -1], [0, 0]]
        for width, deeds in [EXAMPLE, (2, barred), (0, [[], []]), (1, [[1], [2]])]:
            for place in range(len(deeds)):
                self.assert_apart(barring, width, [list(row) for row in deeds], place)

    def test_asked_again_the_same_comes(self):
        works = [works for works, rows in all_reckoned_works() if len(works[1]) == 6]
        first = [barring(*one, 3) for one in works]
        self.assertEqual([barring(*one, 3) for one in reversed(works)], first[::-1])

    def test_the_arguments_have_their_names(self):
        self.assertEqual(barring(place=0, deeds=[[3]], width=1), [1])
