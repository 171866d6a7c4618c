from itertools import product

from drawn import Case, goes_first

from leanmodes.sets import deed_set, is_within


class Sets(Case):
    def test_the_same_deeds_make_the_same_set_whatever_their_counts(self):
        for one, other in [([1, 0, 2], [7, 0, 999999999999]), ([], []), ([0, 0], [0, 0]), ([0, 3], [0, 1])]:
            with self.subTest(one=one, other=other):
                self.assertEqual(deed_set(one), deed_set(other))

    def test_other_deeds_make_another_set_and_the_greater_goes_first(self):
        for one, other in product(product(range(2), repeat=4), repeat=2):
            wanted = goes_first(one, other)
            found = (deed_set(one) < deed_set(other)) - (deed_set(one) > deed_set(other))
            self.assertEqual(found, wanted, (one, other))

    def test_within(self):
        for one, other in product(product(range(3), repeat=4), repeat=2):
            wanted = all(more > 0 for less, more in zip(one, other) if less > 0)
            self.assertIs(is_within(deed_set(one), deed_set(other)), wanted, (one, other))

    def test_the_counts_stay(self):
        self.assert_apart(deed_set, [3, 0, 1])
