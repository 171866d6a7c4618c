import random
from fractions import Fraction
from functools import cache
from itertools import combinations
from math import gcd

from drawn import (
    ANY_NUMBER, EXAMPLE, HIGHEST, SMALL_NUMBERS, draw_works, gained, goes_first, in_lowest_terms, largest_works,
    lean_by_sets, rank, works_of_every_size, works_of_summed_wares, works_of_ten_deeds,
)
from offices import DEEDS, WARES, OfficeCase, answers, by_name, office_of, questions, standing, told_by_name

from leanmodes.office import Office


def draw_stopped(draw, many):
    return sorted(draw.sample(range(many), draw.randint(0, many)))


def works_with_stopped(seed, times):
    """Works with the places of the deeds that are to be forbidden: none, some or all of them."""
    draw = random.Random(seed)
    works = works_of_every_size(seed, 7, times) + works_of_summed_wares(seed, 1)[::3]
    works += [draw_works(draw, width, 10, numbers) for width in range(3, 7) for numbers in (ANY_NUMBER, SMALL_NUMBERS)]
    works += works_of_ten_deeds()
    return [(width, deeds, draw_stopped(draw, len(deeds))) for width, deeds in works]


class Let:
    """The works without the forbidden deeds, their lean rounds reckoned by going through all sets of deeds."""

    def __init__(self, width, deeds, stopped):
        self.width = width
        self.wares = WARES[:width]
        self.names = [name for place, name in enumerate(DEEDS[:len(deeds)]) if place not in stopped]
        self.rows = [row for place, row in enumerate(deeds) if place not in stopped]
        self.lean = lean_by_sets(width, self.rows)

    def told(self, rounds):
        return [told_by_name(self.names, counts) for counts in rounds]


@cache
def reckoned_once():
    return [(Let(*works), works) for works in works_with_stopped(61, 1)]


class QuestionCase(OfficeCase):
    def assert_round(self, told, let):
        """A lean round by names; answers its counts."""
        self.assertIs(type(told), list)
        for entry in told:
            self.assertIs(type(entry), tuple)
            self.assert_whole(entry[1])
        self.assertIn(told, let.told(let.lean))
        return [dict(told).get(name, 0) for name in let.names]

    def assert_row_of_weights(self, told, let):
        """Weights by names, none of them 0, in the order of the wares; answers the whole row."""
        self.assertIs(type(told), list)
        for entry in told:
            self.assertIs(type(entry), tuple)
        row = [dict(told).get(ware, 0) for ware in let.wares]
        self.assertEqual(told, told_by_name(let.wares, row))
        self.assert_weights(row, let.width)
        return row

    def assert_bars(self, told, let, place):
        weights = self.assert_row_of_weights(told, let)
        self.assertGreater(gained(let.rows[place], weights), 0)
        self.assertTrue(all(gained(row, weights) >= 0 for row in let.rows))

    def assert_parts(self, told, let, counts):
        """The parts of a round, its counts given as a dict."""
        self.assertIs(type(told), tuple)
        self.assertEqual(told[0], "made")
        self.assertEqual(len(told), 2)
        self.assertIs(type(told[1]), list)
        sums = [Fraction(0)] * len(let.names)
        rows = []
        for part in told[1]:
            self.assertIs(type(part), tuple)
            top, bottom, lean = part
            self.assert_whole(top)
            self.assert_whole(bottom)
            self.assertTrue(top > 0 and bottom > 0 and gcd(top, bottom) == 1)
            rows.append(self.assert_round(lean, let))
            sums = [before + Fraction(top, bottom) * count for before, count in zip(sums, rows[-1])]
            self.assertTrue(all(counts.get(name, 0) > 0 for name, _ in lean))
        self.assertEqual(sums, [counts.get(name, 0) for name in let.names])
        self.assertLessEqual(len(rows), len([count for count in counts.values() if count > 0]))
        for one, other in zip(rows, rows[1:]):
            self.assertEqual(goes_first(one, other), -1)

    def assert_settled(self, office, let, counts):
        """Also what each ware ends at; answers whether a round was made."""
        kept = dict(counts)
        ends = [sum(counts.get(name, 0) * row[at] for name, row in zip(let.names, let.rows)) for at in range(let.width)]
        for ware, end in zip(let.wares, ends):
            told = office.ends_at(counts, ware)
            self.assert_whole(told)
            self.assertEqual(told, end)
        off = [(ware, end) for ware, end in zip(let.wares, ends) if end != 0]
        told = office.settle(counts)
        if off:
            self.assertEqual(told, ("uneven", *off[0]))
            self.assert_whole(told[2])
        else:
            self.assert_parts(told, let, counts)
        self.assertEqual(list(counts.items()), list(kept.items()))
        self.assertEqual(office.settle(dict(reversed(counts.items()))), told)
        return not off


class Example(QuestionCase):
    def setUp(self):
        self.office = Office()
        self.office.put_ware("ore")
        self.office.put_ware("iron")
        self.office.put_deed("mine", {"ore": 2})
        self.office.put_deed("smelt", {"ore": -3, "iron": 1})
        self.office.put_deed("sell", {"iron": -1})
        self.office.put_deed("waste", {"ore": -1, "iron": -1})
        self.sold = [("mine", 3), ("smelt", 2), ("sell", 2)]
        self.wasted = [("mine", 2), ("smelt", 1), ("waste", 1)]

    def test_the_example_of_the_document(self):
        office = self.office
        self.assertEqual(office.lean(), [self.sold, self.wasted])
        office.forbid("smelt")
        self.assertEqual(office.lean(), [])
        told = office.stands("sell")
        self.assertEqual(told[0], "barred")
        self.assert_bars(told[1], Let(*EXAMPLE, [1]), 1)
        office.let("smelt")
        self.assertEqual(office.lean(), [self.sold, self.wasted])
        told = office.settle({"mine": 5, "smelt": 3, "sell": 2, "waste": 1})
        self.assertEqual(told, ("made", [(1, 1, self.sold), (1, 1, self.wasted)]))

    def test_its_other_answers(self):
        office = self.office
        self.assertEqual(office.with_without("mine", "sell"), [self.wasted])
        self.assertEqual(office.with_without("sell", "waste"), [self.sold])
        self.assertEqual(office.with_without("mine", "smelt"), [])
        self.assertEqual(office.with_without("mine", "mine"), [])
        self.assertEqual(office.stands("sell"), ("round", self.sold))
        self.assertEqual(office.stands("waste"), ("round", self.wasted))
        self.assertIn(office.stands("mine"), [("round", self.sold), ("round", self.wasted)])
        self.assertEqual((office.idle(), office.sums()), ([], []))
        self.assertEqual(office.fewest_to_forbid("mine"), ["smelt"])
        self.assertIn(office.fewest_to_forbid("sell"), [["mine"], ["smelt"]])
        self.assertEqual(office.settle({"mine": 1}), ("uneven", "ore", 2))
        self.assertEqual(office.settle({"sell": 4}), ("uneven", "iron", -4))
        self.assertEqual(office.settle({"waste": 4}), ("uneven", "ore", -4))
        self.assertEqual(office.ends_at({"waste": 4, "smelt": 1}, "iron"), -3)
        office.forbid("mine")
        self.assertEqual([name for name, _ in office.idle()], ["smelt", "sell", "waste"])
        office.forbid("smelt")
        self.assertEqual([name for name, _ in office.idle()], ["sell", "waste"])


class Questions(QuestionCase):
    def setUp(self):
        self.all = [(office_of(*works), let, works) for let, works in reckoned_once()]

    def test_lean(self):
        for office, let, works in self.all:
            with self.subTest(works=works):
                self.assertEqual(office.lean(), let.told(let.lean))

    def test_with_without(self):
        for office, let, works in self.all:
            for at, one in enumerate(let.names):
                for past, other in enumerate(let.names):
                    wanted = [row for row in let.lean if row[at] > 0 and row[past] == 0]
                    self.assertEqual(office.with_without(one, other), let.told(wanted), (works, one, other))

    def test_stands_and_idle(self):
        barred = 0
        for office, let, works in self.all:
            with self.subTest(works=works):
                idle = []
                for at, name in enumerate(let.names):
                    told = office.stands(name)
                    self.assertIs(type(told), tuple)
                    self.assertEqual(len(told), 2)
                    if any(row[at] > 0 for row in let.lean):
                        self.assertEqual(told[0], "round")
                        self.assertGreater(self.assert_round(told[1], let)[at], 0)
                    else:
                        self.assertEqual(told[0], "barred")
                        self.assert_bars(told[1], let, at)
                        idle.append((at, name))
                told = office.idle()
                self.assertIs(type(told), list)
                self.assertEqual([name for name, _ in told], [name for _, name in idle])
                for (at, _), entry in zip(idle, told):
                    self.assertIs(type(entry), tuple)
                    self.assert_bars(entry[1], let, at)
                barred += len(idle)
        self.assertGreater(barred, 200)

    def test_sums(self):
        for office, let, works in self.all:
            with self.subTest(works=works):
                told = office.sums()
                self.assertIs(type(told), list)
                rows = [self.assert_row_of_weights(weights, let) for weights in told]
                for weights in rows:
                    self.assertEqual([gained(row, weights) for row in let.rows], [0] * len(let.rows))
                self.assertEqual(len(rows), let.width - rank(let.rows, let.width))
                self.assertEqual(rank(rows, let.width), len(rows))

    def test_fewest_to_forbid(self):
        for office, let, works in self.all:
            for at, name in enumerate(let.names):
                told = office.fewest_to_forbid(name)
                with self.subTest(works=works, name=name, told=told):
                    if not any(let.rows[at]):
                        self.assertIsNone(told)
                        continue
                    self.assertIs(type(told), list)
                    self.assertEqual(told, [other for other in let.names if other in told])
                    self.assertNotIn(name, told)
                    places = [let.names.index(other) for other in told]
                    having = [row for row in let.lean if row[at] > 0]
                    self.assertTrue(all(any(row[place] for place in places) for row in having))
                    others = [place for place in range(len(let.names)) if place != at]
                    for size in range(len(told)):
                        for fewer in combinations(others, size):
                            self.assertTrue(any(not any(row[place] for place in fewer) for row in having), fewer)

    def test_settle_and_ends_at_with_any_counts(self):
        draw = random.Random(62)
        for office, let, works in self.all:
            if let.names:
                for highest in (1, 3, HIGHEST):
                    counts = {name: draw.choice((0, draw.randint(0, highest))) for name in let.names}
                    counts = {name: counts[name] for name in draw.sample(let.names, draw.randint(1, len(let.names)))}
                    counts[draw.choice(let.names)] = highest
                    for name in office.forbidden()[::2]:
                        counts[name] = 0
                    self.assert_settled(office, let, counts)

    def test_settle_with_rounds_of_several_lean_ones(self):
        draw = random.Random(63)
        made = 0
        for office, let, works in self.all:
            if not let.lean:
                continue
            for parts in (1, 2, 3, len(let.lean)):
                chosen = [draw.choice(let.lean) for _ in range(parts)]
                row = in_lowest_terms([sum(column) for column in zip(*chosen)])
                for times in (1, 2, HIGHEST // max(row)):
                    whole = by_name(let.names, [times * count for count in row])
                    counts = {name: count for name, count in whole.items() if count > 0 or draw.random() < 0.5}
                    with self.subTest(works=works, counts=counts):
                        self.assertIs(self.assert_settled(office, let, counts), True)
                        made += parts > 1
                # With one more of one deed the first ware that the deed has a number for is uneven.
                at = draw.randrange(len(let.names))
                more = {**by_name(let.names, row), let.names[at]: row[at] + 1}
                self.assertIs(self.assert_settled(office, let, more), not any(let.rows[at]))
        self.assertGreater(made, 250)

    def test_the_first_uneven_ware_in_the_order_of_the_wares(self):
        for first in range(6):
            for last in range(first, 6):
                row = [0] * first + [5] + [0] * (last - first - 1) + [-7] * (last > first) + [0] * (5 - last)
                office = office_of(6, [[0] * 6, row])
                self.assertEqual(office.settle({"smelt": 3, "mine": 1}), ("uneven", WARES[first], 15))
                self.assertEqual(office.ends_at({"smelt": 3}, WARES[last]), 15 if last == first else -21)

    def test_ends_at_without_counts_above_0(self):
        for office, let, works in self.all:
            for ware in let.wares:
                self.assertEqual(office.ends_at({}, ware), 0)
                self.assertEqual(office.ends_at(dict.fromkeys(office.deeds(), 0), ware), 0)


class Edges(QuestionCase):
    def test_no_wares(self):
        office = office_of(0, [[], [], []], [1])
        self.assertEqual(office.lean(), [[("mine", 1)], [("sell", 1)]])
        self.assertEqual(office.stands("sell"), ("round", [("sell", 1)]))
        self.assertEqual(office.with_without("mine", "sell"), [[("mine", 1)]])
        self.assertEqual((office.idle(), office.sums(), office.fewest_to_forbid("mine")), ([], [], None))
        told = office.settle({"sell": HIGHEST, "mine": 2})
        self.assertEqual(told, ("made", [(2, 1, [("mine", 1)]), (HIGHEST, 1, [("sell", 1)])]))

    def test_no_deeds_and_all_deeds_forbidden(self):
        for width in range(7):
            for many in (0, 1, 4, 10):
                office = office_of(width, [[1] * width for _ in range(many)], range(many))
                self.assertEqual((office.lean(), office.idle()), ([], []))
                self.assertEqual(len(office.sums()), width)
                self.assertEqual(rank([[dict(row).get(ware, 0) for ware in WARES] for row in office.sums()], 6), width)
                for ware in WARES[:width]:
                    self.assertEqual(office.ends_at(dict.fromkeys(DEEDS[:many], 0), ware), 0)

    def test_a_deed_of_noughts_alone(self):
        office = office_of(2, [[0, 0], [1, 0], [-1, 1]])
        self.assertEqual(office.lean(), [[("mine", 1)]])
        self.assertIsNone(office.fewest_to_forbid("mine"))
        self.assertEqual(office.fewest_to_forbid("smelt"), [])
        self.assertEqual(office.settle({"mine": 7}), ("made", [(7, 1, [("mine", 1)])]))
        self.assertEqual([name for name, _ in office.idle()], ["smelt", "sell"])

    def test_with_a_deed_let_the_other_rounds_come_back(self):
        office = office_of(*EXAMPLE)
        asked = questions(office, [{"mine": 5, "smelt": 3, "sell": 2, "waste": 1}])
        first = answers(office, asked)
        for name in office.deeds():
            office.forbid(name)
            self.assertTrue(all(name not in dict(found) for found in office.lean()))
            self.assertNotEqual(answers(office, asked), first)
            office.let(name)
            self.assertEqual(answers(office, asked), first)

    def test_fewest_to_forbid_is_right_when_it_is_done(self):
        for works in works_with_stopped(64, 1)[::5]:
            office = office_of(*works)
            for name in [name for name in office.deeds() if name not in office.forbidden()]:
                told = office.fewest_to_forbid(name)
                for other in told or []:
                    self.assertEqual(office.stands(name)[0], "round")
                    office.forbid(other)
                self.assertEqual(office.stands(name)[0], "round" if told is None else "barred")
                office.take_back(len(told or []))

    def test_six_wares_and_ten_deeds_are_answered_quickly(self):
        def ask_all(width, deeds):
            office = office_of(width, deeds)
            answers(office, questions(office, [dict.fromkeys(DEEDS, 1), {DEEDS[0]: HIGHEST}]))

        self.assert_quick(ask_all, largest_works()[::10] + works_of_ten_deeds()[:2])


def put_in_plainly(width, deeds, stopped):
    return office_of(width, deeds, stopped)


def put_in_with_wares_behind_the_deeds(width, deeds, stopped):
    office = office_of(0, [[] for _ in deeds])
    for name in WARES[:width]:
        office.put_ware(name)
    for name, row in zip(DEEDS, deeds):
        for ware, number in zip(WARES, row):
            office.change(name, ware, number)
    for place in reversed(stopped):
        office.forbid(DEEDS[place])
    return office


def put_in_with_other_numbers_first(width, deeds, stopped):
    office = office_of(width, [[(number + 13) % 19 - 9 for number in row] for row in deeds])
    answers(office, questions(office))
    for name, row in reversed(list(zip(DEEDS, deeds))):
        for ware, number in reversed(list(zip(WARES, row))):
            office.change(name, ware, number)
    for place in stopped:
        office.forbid(DEEDS[place])
    return office


def put_in_with_deeds_forbidden_and_let(width, deeds, stopped):
    office = office_of(width, deeds, range(len(deeds)))
    answers(office, questions(office))
    for place in range(len(deeds)):
        office.let(DEEDS[place])
    for place in reversed(stopped):
        office.forbid(DEEDS[place])
        answers(office, questions(office))
    return office


def put_in_with_doings_taken_back(width, deeds, stopped):
    office = office_of(6 - width, [[3, -2, 1, 0, 5, -1][:6 - width] for _ in deeds], stopped)
    answers(office, questions(office))
    office.take_back(office.doings())
    for name in WARES[:width]:
        office.put_ware(name)
    for place, row in enumerate(deeds):
        office.put_deed("wrong", {})
        office.forbid("wrong")
        office.take_back(2)
        # By the dict's order nothing changes, nor by the noughts that it does not name.
        numbers = {ware: number for ware, number in reversed(list(zip(WARES, row))) if number != 0}
        office.put_deed(DEEDS[place], numbers)
    for place in stopped:
        office.forbid(DEEDS[place])
    return office


WAYS = [
    put_in_plainly, put_in_with_wares_behind_the_deeds, put_in_with_other_numbers_first,
    put_in_with_deeds_forbidden_and_let, put_in_with_doings_taken_back,
]


def some_counts(let):
    found = [dict.fromkeys(let.names, 1), dict.fromkeys(let.names[:2], HIGHEST)]
    if let.lean:
        found.append(by_name(let.names, [sum(column) for column in zip(*let.lean)]))
    return found


class Throughout(QuestionCase):
    def test_works_put_in_by_different_ways_answer_everything_alike(self):
        for works in works_with_stopped(65, 1)[::3]:
            first = put_in_plainly(*works)
            asked = questions(first, some_counts(Let(*works)))
            wanted = answers(first, asked)
            for way in WAYS:
                with self.subTest(works=works, way=way.__name__):
                    office = way(*works)
                    self.assertEqual(standing(office), standing(first))
                    self.assertEqual(answers(office, asked), wanted)

    def test_forbidden_deeds_count_for_nothing(self):
        # Where one right answer alone is there, it is the answer of the works without them.
        for width, deeds, stopped in works_with_stopped(66, 1)[::3]:
            office = office_of(width, deeds, stopped)
            plain = Office()
            for name in WARES[:width]:
                plain.put_ware(name)
            for place, name in enumerate(DEEDS[:len(deeds)]):
                if place not in stopped:
                    plain.put_deed(name, by_name(WARES, deeds[place]))
            self.assertEqual(office.lean(), plain.lean())
            self.assertEqual([name for name, _ in office.idle()], [name for name, _ in plain.idle()])
            self.assertEqual(len(office.sums()), len(plain.sums()))

    def test_two_offices_used_by_turns(self):
        for one, other in [
            ((*EXAMPLE, []), (*EXAMPLE, [1])),
            ((*EXAMPLE, [3]), (1, [[1], [-1], [2]], [])),
            ((*works_of_ten_deeds()[3], [2]), (*works_of_ten_deeds()[4], [5, 6])),
        ]:
            apart = []
            for works in (one, other):
                office = office_of(*works)
                apart.append(answers(office, questions(office)))
            offices = [Office(), Office()]
            for step in range(16):
                for office, (width, deeds, _) in zip(offices, (one, other)):
                    if step < width:
                        office.put_ware(WARES[step])
                    if 6 <= step < 6 + len(deeds):
                        office.put_deed(DEEDS[step - 6], by_name(WARES, deeds[step - 6]))
                    answers(office, questions(office))
            for office, (_, _, stopped) in zip(offices, (one, other)):
                for place in stopped:
                    office.forbid(DEEDS[place])
            asked = [questions(office) for office in offices]
            for office, told, some in reversed(list(zip(offices, apart, asked))):
                self.assertEqual(answers(office, some), told)
            offices[0].take_back(offices[0].doings())
            self.assertEqual(answers(offices[1], asked[1]), apart[1])

    def test_every_told_list_is_new(self):
        for works in works_with_stopped(67, 1)[::3]:
            office = office_of(*works)
            self.assert_all_apart(office, questions(office, some_counts(Let(*works))))

    def test_counts_that_are_changed_afterwards_change_nothing(self):
        office = office_of(*EXAMPLE)
        counts = {"mine": 5, "smelt": 3, "sell": 2, "waste": 1}
        told = office.settle(counts)
        kept = (told[0], [(top, bottom, list(lean)) for top, bottom, lean in told[1]])
        counts["mine"] = 6
        counts["none"] = -1
        self.assertEqual(told, kept)
        self.assertEqual(office.settle({"mine": 5, "smelt": 3, "sell": 2, "waste": 1}), kept)

    def test_the_same_comes_again_whatever_was_in_between(self):
        for works in works_with_stopped(68, 1)[::6]:
            office = office_of(*works)
            asked = questions(office, some_counts(Let(*works)))
            first = answers(office, asked)
            self.assertEqual(answers(office, asked[::-1]), first[::-1])
            doings = office.doings()
            for name in office.forbidden():
                office.let(name)
            for name in office.deeds()[:3]:
                office.forbid(name)
                office.lean()
            self.assertRaises(ValueError, office.put_ware, "Mill")
            self.assertRaises(ValueError, office.settle, {"none": 1})
            office.take_back(office.doings() - doings)
            self.assertEqual(answers(office, asked), first)
