import random

from drawn import EXAMPLE, HIGHEST, Case, works_of_every_size

from leanmodes.rounds import ends, is_round, places, uneven

# Works and a round of each, to be made uneven ware by ware.
SPOILABLE = [
    (1, [[1], [-1]], [4, 4]),
    (2, [[2, 0], [-3, 1], [0, -1], [-1, -1]], [5, 3, 2, 1]),
    (3, [[1, 0, 0], [-1, 1, 0], [0, -1, 1], [0, 0, -1]], [HIGHEST] * 4),
    (6, [[1, -2, 3, -4, 5, -6], [-1, 2, -3, 4, -5, 6]], [9, 9]),
]


def with_counts(works, seed):
    draw = random.Random(seed)
    for width, deeds in works:
        for counts in (
            [0 for _ in deeds],
            [draw.randint(0, 3) for _ in deeds],
            [draw.choice((0, 1, HIGHEST)) for _ in deeds],
            [HIGHEST for _ in deeds],
        ):
            yield width, deeds, counts


def reckoned_ends(width, deeds, counts):
    sums = [0] * width
    for place in range(len(deeds)):
        for ware in range(width):
            sums[ware] += counts[place] * deeds[place][ware]
    return sums


ASKED = list(with_counts(works_of_every_size(1, 10, 2), 2))


class Ends(Case):
    def test_written_answers(self):
        for width, deeds, counts, wanted in [
            (*EXAMPLE, [3, 2, 2, 0], [0, 0]),
            (*EXAMPLE, [1, 0, 0, 0], [2, 0]),
            (*EXAMPLE, [0, 1, 2, 3], [-6, -4]),
            (*EXAMPLE, [0, 0, 0, 0], [0, 0]),
            (1, [[-9], [9]], [HIGHEST, 0], [-9 * HIGHEST]),
            (1, [[-9], [9]], [0, HIGHEST], [9 * HIGHEST]),
            (0, [], [], []),
            (0, [[], []], [3, 0], []),
            (3, [], [], [0, 0, 0]),
        ]:
            with self.subTest(deeds=deeds, counts=counts):
                self.assert_row(ends(width, deeds, counts), wanted)

    def test_drawn_works(self):
        for width, deeds, counts in ASKED:
            self.assert_row(ends(width, deeds, counts), reckoned_ends(width, deeds, counts))

    def test_apart(self):
        for width, deeds, counts in SPOILABLE + [(0, [], []), (2, [], []), (0, [[]], [1])]:
            self.assert_apart(ends, width, [list(row) for row in deeds], list(counts))

    def test_the_arguments_have_their_names(self):
        self.assertEqual(ends(counts=[2], deeds=[[3]], width=1), [6])


class Uneven(Case):
    def test_written_answers(self):
        for width, deeds, counts, wanted in [
            (*EXAMPLE, [3, 2, 2, 0], []),
            (*EXAMPLE, [4, 2, 2, 0], [0]),
            (*EXAMPLE, [3, 2, 1, 0], [1]),
            (*EXAMPLE, [3, 2, 2, 1], [0, 1]),
            (*EXAMPLE, [0, 0, 0, 0], []),
            (0, [], [], []),
            (0, [[], []], [3, 0], []),
            (3, [], [], []),
            (6, [[0, 0, 0, 0, 0, -1]], [HIGHEST], [5]),
            (6, [[1, 0, 0, 0, 0, 0]], [HIGHEST], [0]),
            (6, [[1, 0, -2, 0, 3, 0]], [1], [0, 2, 4]),
        ]:
            with self.subTest(deeds=deeds, counts=counts):
                self.assert_row(uneven(width, deeds, counts), wanted)

    def test_a_round_spoilt_in_some_wares(self):
        for width, deeds, counts in SPOILABLE:
            for wares in ([0], [width - 1], list(range(width)), list(range(0, width, 2))):
                for sign in (1, -1):
                    spoilt = [sign if ware in wares else 0 for ware in range(width)]
                    self.assertEqual(uneven(width, deeds + [spoilt], counts + [0]), [])
                    self.assertEqual(uneven(width, deeds + [spoilt], counts + [1]), sorted(set(wares)))

    def test_drawn_works(self):
        for width, deeds, counts in ASKED:
            wanted = [ware for ware, total in enumerate(reckoned_ends(width, deeds, counts)) if total]
            self.assert_row(uneven(width, deeds, counts), wanted)

    def test_apart(self):
        for width, deeds, counts in SPOILABLE + [(0, [], []), (2, [], []), (1, [[1]], [1])]:
            self.assert_apart(uneven, width, [list(row) for row in deeds], list(counts))

    def test_the_arguments_have_their_names(self):
        self.assertEqual(uneven(counts=[2], deeds=[[3, 0]], width=2), [0])


class Places(Case):
    def test_written_answers(self):
        for counts, wanted in [
            ([], []), ([0], []), ([1], [0]), ([HIGHEST], [0]), ([0, 0, 0], []), ([0, 2, 0, 1], [1, 3]),
            ([1] * 10, list(range(10))), ([0] * 9 + [HIGHEST], [9]), ([HIGHEST] + [0] * 9, [0]),
        ]:
            with self.subTest(counts=counts):
                self.assert_row(places(counts), wanted)

    def test_apart(self):
        for counts in ([], [0], [0, 2, 0, 1]):
            self.assert_apart(places, counts)

    def test_the_argument_has_its_name(self):
        self.assertEqual(places(counts=[0, 5]), [1])


class IsRound(Case):
    def test_written_answers(self):
        for width, deeds, counts, wanted in [
            (*EXAMPLE, [3, 2, 2, 0], True),
            (*EXAMPLE, [5, 3, 2, 1], True),
            (*EXAMPLE, [4, 2, 2, 0], False),
            (*EXAMPLE, [3, 2, 1, 0], False),
            (*EXAMPLE, [0, 0, 0, 0], False),
            (1, [[0], [1]], [HIGHEST, 0], True),
            (1, [[9], [-9]], [HIGHEST, HIGHEST], True),
            (1, [[9], [-9]], [HIGHEST, HIGHEST - 1], False),
        ]:
            with self.subTest(deeds=deeds, counts=counts):
                self.assertIs(is_round(width, deeds, counts), wanted)

    def test_without_wares_every_row_with_a_deed_is_a_round(self):
        for counts, wanted in [([], False), ([0], False), ([0, 0], False), ([0, 1], True), ([HIGHEST, 2], True)]:
            with self.subTest(counts=counts):
                self.assertIs(is_round(0, [[] for _ in counts], counts), wanted)

    def test_without_deeds_there_is_no_round(self):
        for width in range(7):
            self.assertIs(is_round(width, [], []), False)

    def test_a_round_spoilt_in_one_ware_is_none(self):
        for width, deeds, counts in SPOILABLE:
            self.assertIs(is_round(width, deeds, counts), True)
            for ware in range(width):
                for sign in (1, -1):
                    spoilt = [sign if at == ware else 0 for at in range(width)]
                    self.assertIs(is_round(width, deeds + [spoilt], counts + [0]), True)
                    self.assertIs(is_round(width, deeds + [spoilt], counts + [1]), False)

    def test_drawn_works(self):
        for width, deeds, counts in ASKED:
            wanted = any(counts) and not any(reckoned_ends(width, deeds, counts))
            self.assertIs(is_round(width, deeds, counts), wanted)

    def test_apart(self):
        for width, deeds, counts in SPOILABLE + [(0, [], []), (2, [], []), (1, [[1]], [1])]:
            self.assert_apart(is_round, width, [list(row) for row in deeds], list(counts))

    def test_the_arguments_have_their_names(self):
        self.assertIs(is_round(counts=[2], deeds=[[0]], width=1), True)
