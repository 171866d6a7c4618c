from itertools import combinations

from drawn import EXAMPLE, Case, all_reckoned_works, largest_works, lean_by_sets, works_of_ten_deeds

from leanmodes.cuts import fewest


class Fewest(Case):
    def assert_fewest(self, width, deeds, rows):
        """Of every deed; answers how long the told lists are."""
        lengths = []
        for place, deed in enumerate(deeds):
            told = fewest(width, deeds, place)
            with self.subTest(width=width, deeds=deeds, place=place, told=told):
                if not any(deed):
                    self.assertIsNone(told)
                    continue
                lengths.append(len(told))
                self.assert_row(told, sorted(set(told)))
                self.assertNotIn(place, told)
                self.assertTrue(all(0 <= other < len(deeds) for other in told))
                having = [row for row in rows if row[place] > 0]
                self.assertTrue(all(any(row[other] for other in told) for row in having))
                others = [other for other in range(len(deeds)) if other != place]
                for size in range(len(told)):
                    for fewer in combinations(others, size):
                        self.assertTrue(any(not any(row[other] for other in fewer) for row in having), fewer)
        return lengths

    def test_written_answers(self):
        for width, deeds, place, wanted in [
            (*EXAMPLE, 2, ([0], [1])),
            (*EXAMPLE, 3, ([0], [1])),
            (*EXAMPLE, 0, ([1],)),
            (*EXAMPLE, 1, ([0],)),
            (1, [[1]], 0, ([],)),
            (1, [[1], [2], [0]], 1, ([],)),
            (1, [[0]], 0, (None,)),
            (0, [[]], 0, (None,)),
            (0, [[], []], 1, (None,)),
            (3, [[0, 0, 0], [1, 0, 0], [-1, 0, 0]], 0, (None,)),
            (3, [[0, 0, 0], [1, 0, 0], [-1, 0, 0]], 1, ([2],)),
            (1, [[1], [-1], [-1]], 0, ([1, 2],)),
            (1, [[1], [-1], [-1]], 1, ([0],)),
            (1, [[-2], [1], [5], [-1], [0], [9]], 0, ([1, 2, 5],)),
            (1, [[-2], [1], [5], [-1], [0], [9]], 2, ([0, 3],)),
            (1, [[3]] + [[-1]] * 9, 0, ([1, 2, 3, 4, 5, 6, 7, 8, 9],)),
            (1, [[-1]] * 9 + [[3]], 9, ([0, 1, 2, 3, 4, 5, 6, 7, 8],)),
            (1, [[-1]] * 4 + [[3]] + [[-1]] * 5, 4, ([0, 1, 2, 3, 5, 6, 7, 8, 9],)),
            (2, [[1, 1], [-1, 0], [-1, 0], [0, -1]], 0, ([3],)),
        ]:
            with self.subTest(deeds=deeds, place=place):
                told = fewest(width, deeds, place)
                self.assertIn(told, wanted)
                self.assert_fewest(width, deeds, lean_by_sets(width, deeds))

    def test_without_wares(self):
        for many in range(1, 11):
            for place in range(many):
                self.assertIsNone(fewest(0, [[] for _ in range(many)], place))

    def test_drawn_works(self):
        lengths = []
        for (width, deeds), rows in all_reckoned_works():
            lengths += self.assert_fewest(width, deeds, rows)
        for length in range(4):
            self.assertGreater(lengths.count(length), 20)

    def test_ten_deeds(self):
        lengths = []
        for width, deeds in works_of_ten_deeds():
            lengths += self.assert_fewest(width, deeds, lean_by_sets(width, deeds))
        self.assertGreater(max(lengths), 4)

    def test_ten_deeds_are_answered_quickly(self):
        works = works_of_ten_deeds() + largest_works() + [(1, [[3]] + [[-1]] * 9), (1, [[3]] * 5 + [[-1]] * 5)]
        self.assert_quick(fewest, [(*one, place) for one in works for place in (0, 4, 9)])

    def test_somewhat_beyond_the_bounds_nothing_is_refused(self):
        deeds = [[12], [-11], [10], [0]] + [[-10]] * 8
        self.assert_fewest(1, deeds, lean_by_sets(1, deeds))

    def test_apart(self):
        for width, deeds in [EXAMPLE, (1, [[1], [-1], [-1], [0]]), (0, [[], []]), (1, [[1], [2]])]:
            for place in range(len(deeds)):
                self.assert_apart(fewest, width, [list(row) for row in deeds], place)

    def test_asked_again_the_same_comes(self):
        works = works_of_ten_deeds()
        first = [fewest(*one, 5) for one in works]
        self.assertEqual([fewest(*one, 5) for one in reversed(works)], first[::-1])

    def test_the_arguments_have_their_names(self):
        self.assertEqual(fewest(place=0, deeds=[[3], [-1]], width=1), [1])
