from itertools import product

from drawn import HIGHEST
from offices import DOINGS, OfficeCase, Record, ask

from leanmodes import errors
from leanmodes.office import Office

BEYOND = [10, -10, 11, 99, -(10 ** 9), 10 ** 12, 10 ** 60, 10 ** 5000, -(10 ** 5000)]

SOME = [
    ("put_ware", "ore"), ("put_ware", "iron"), ("put_deed", "mine", {"ore": 2}),
    ("put_deed", "smelt", {"ore": -3, "iron": 1}), ("put_deed", "sell", {"iron": -1}), ("forbid", "smelt"), ("put_deed", "iron", {}), ("forbid", "iron"),
]
FULL = SOME + [("put_ware", name) for name in "cdef"] + [("put_deed", name, {}) for name in "ghijkl"]


def office_after(doings, many):
    """An office and its record; where the doings are fewer, the last ones only change a number."""
    office, record = Office(), Record()
    for doing in doings + [("change", "mine", "ore", 2)] * (many - len(doings)):
        ask(office, *doing)
        record.do(*doing)
    return office, record


def every(*choices):
    return list(product(*choices))


DEED_ASKED = ["mine", "sell", "smelt", "iron", "ore", "none", "", "Mill", "a b"]
WARE_ASKED = ["ore", "iron", "mine", "none", "", "ORE", "abcdefg"]
NEW_NAMES = ["new", "ore", "iron", "mine", "smelt", "", "Mill", "abcdefg", "a b", "x1", "ore "]
DICTS_OF_WARES = [
    {}, {"ore": 9}, {"ore": -9, "iron": 9}, {"none": 0}, {"none": 3, "ore": 1}, {"ore": 1, "mine": 2}, {"": 0},
    {"ore": 10}, {"iron": 0, "ore": -10}, {"none": 10}, {"none": 1, "ore": 10}, {"ore": 10 ** 5000}, {"Ore": 10 ** 20},
]
DICTS_OF_COUNTS = [
    {}, {"mine": 1}, {"mine": 0}, {"mine": HIGHEST, "sell": 3}, {"mine": 1, "smelt": 0}, {"smelt": 0, "iron": 0},
    {"smelt": 1}, {"mine": 2, "smelt": 1}, {"smelt": HIGHEST + 1, "mine": 1}, {"smelt": -1}, {"smelt": -1, "mine": 1},
    {"mine": -1}, {"mine": 10 ** 12}, {"mine": -1, "sell": 1}, {"mine": 10 ** 12, "sell": 0}, {"mine": 10 ** 5000},
    {"none": 1}, {"none": 0}, {"none": 0, "mine": 1}, {"none": -1}, {"none": 10 ** 12, "mine": 1},
    {"ore": 0, "smelt": 0}, {"none": 1, "smelt": 1}, {"smelt": -1, "none": 0}, {"iron": 10 ** 12, "none": 0}, {"": 0}, {"Mine": 1},
    {"mine": -(10 ** 5000), "smelt": 0},
]
NUMBERS = [0, 9, -9, *BEYOND]
HANDED_IN = {
    "put_ware": every(NEW_NAMES),
    "put_deed": every(NEW_NAMES, DICTS_OF_WARES),
    "change": every(DEED_ASKED, WARE_ASKED, NUMBERS),
    "forbid": every(DEED_ASKED),
    "let": every(DEED_ASKED),
    "take_back": [()] + every([0, 1, 8, 9, 17, 18, 19, 199, 200, 201, 10 ** 5000]),
    "number": every(DEED_ASKED, WARE_ASKED),
    "with_without": every(DEED_ASKED, DEED_ASKED),
    "stands": every(DEED_ASKED),
    "fewest_to_forbid": every(DEED_ASKED),
    "settle": every(DICTS_OF_COUNTS),
    "ends_at": every(DICTS_OF_COUNTS, WARE_ASKED),
}


def sets_of(*choices):
    """Every way to take one of each choice, none of them (an empty text) left out."""
    return {tuple(name for name in taken if name) for taken in product(*choices)} - {()}


# Every set of refusals that can be due at the same time. A count of a forbidden
# deed that is other than 0 is above 0 or bad: so settle's are told one by one.
TOGETHER = {
    "put_ware": sets_of(("", "BadName", "Taken"), ("", "NoRoom")),
    "put_deed": sets_of(("", "BadName", "Taken"), ("", "NoWare"), ("", "BadNumber"), ("", "NoRoom")),
    "change": sets_of(
        ("", "NoDeed"), ("", "NoWare"), ("", "BadNumber"), ("", "NoRoom")
    ) | sets_of(("", "NoWare"), ("Forbidden",), ("", "BadNumber"), ("", "NoRoom")),
    "forbid": sets_of(("", "NoDeed", "Forbidden"), ("", "NoRoom")),
    "let": sets_of(("", "NoDeed", "NotForbidden"), ("", "NoRoom")),
    "take_back": sets_of(("NotDone",)),
    "number": sets_of(("", "NoDeed"), ("", "NoWare")),
    "with_without": sets_of(("", "NoDeed"), ("", "Forbidden")),
    "stands": sets_of(("", "NoDeed", "Forbidden")),
    "fewest_to_forbid": sets_of(("", "NoDeed", "Forbidden")),
    "settle": sets_of(("", "NoDeed"), ("", "Forbidden"), ("BadNumber",), ("", "NoRound"))
    | sets_of(("", "NoDeed"), ("", "Forbidden")) | sets_of(("", "NoDeed"), ("NoRound",)),
    "ends_at": sets_of(("", "NoDeed"), ("", "NoWare"), ("", "Forbidden"), ("", "BadNumber")),
}


class Refusals(OfficeCase):
    def setUp(self):
        self.offices = [office_after(doings, many) for doings in (SOME, FULL) for many in (0, 200)]
        # Here there is room for one more doing.
        self.offices.append(office_after(SOME, 199))

    def test_alone_and_together_the_first_one_comes_and_nothing_changes(self):
        for method in HANDED_IN:
            seen = set()
            for handed_in, (office, record) in product(HANDED_IN[method], self.offices):
                if record.due(method, handed_in):
                    seen.add(tuple(self.assert_refused(office, record, method, *handed_in)))
            with self.subTest(method=method):
                self.assertEqual(seen, TOGETHER[method])

    def test_what_is_not_due_is_not_refused(self):
        for method in HANDED_IN:
            done = 0
            for handed_in, (office, record) in product(HANDED_IN[method], self.offices):
                # What is taken back would have to be done again: other tests see to that.
                if method != "take_back" and not record.due(method, handed_in):
                    done += 1
                    self.assertNotIsInstance(ask(office, method, *handed_in), type, (method, handed_in))
                    if method in DOINGS:
                        office.take_back()
                    self.assert_stands(office, record)
            self.assertEqual(done > 0, method != "take_back")

    def test_written_refusals(self):
        office, _ = self.offices[0]
        for handed_in, wanted in [
            (("put_ware", ""), errors.BadName),
            (("put_ware", "iron"), errors.Taken),
            (("put_deed", "iron", {"none": 99}), errors.Taken),
            (("put_deed", "new", {"ore": 10, "none": 0}), errors.NoWare),
            (("put_deed", "new", {"ore": -10}), errors.BadNumber),
            (("change", "none", "none", 99), errors.NoDeed),
            (("change", "smelt", "none", 99), errors.NoWare),
            (("change", "smelt", "ore", 99), errors.Forbidden),
            (("change", "mine", "ore", 99), errors.BadNumber),
            (("forbid", "none"), errors.NoDeed),
            (("forbid", "smelt"), errors.Forbidden),
            (("let", "none"), errors.NoDeed),
            (("let", "mine"), errors.NotForbidden),
            (("take_back", 9), errors.NotDone),
            (("number", "none", "none"), errors.NoDeed),
            (("number", "smelt", "none"), errors.NoWare),
            (("with_without", "smelt", "none"), errors.NoDeed),
            (("with_without", "none", "smelt"), errors.NoDeed),
            (("with_without", "mine", "smelt"), errors.Forbidden),
            (("with_without", "smelt", "mine"), errors.Forbidden),
            (("with_without", "smelt", "smelt"), errors.Forbidden),
            (("with_without", "none", "none"), errors.NoDeed),
            (("stands", "none"), errors.NoDeed),
            (("stands", "smelt"), errors.Forbidden),
            (("fewest_to_forbid", "none"), errors.NoDeed),
            (("fewest_to_forbid", "smelt"), errors.Forbidden),
            (("settle", {"smelt": 10 ** 12, "none": 0}), errors.NoDeed),
            (("settle", {"smelt": -1}), errors.Forbidden),
            (("settle", {"mine": -1, "smelt": 1}), errors.Forbidden),
            (("settle", {"mine": -1, "smelt": 0}), errors.BadNumber),
            (("settle", {"mine": 10 ** 12}), errors.BadNumber),
            (("settle", {"mine": 0, "smelt": 0}), errors.NoRound),
            (("settle", {}), errors.NoRound),
            (("ends_at", {"none": -1, "smelt": 1}, "none"), errors.NoDeed),
            (("ends_at", {"mine": -1, "smelt": 1}, "none"), errors.NoWare),
            (("ends_at", {"mine": -1, "smelt": 1}, "ore"), errors.Forbidden),
            (("ends_at", {"mine": -1, "smelt": 0}, "ore"), errors.BadNumber),
            (("ends_at", {"mine": 10 ** 12}, "ore"), errors.BadNumber),
        ]:
            with self.subTest(handed_in=handed_in):
                self.assertIs(ask(office, *handed_in), wanted)

    def test_a_forbidden_deed_with_the_count_0_is_not_refused(self):
        office, _ = self.offices[0]
        self.assertEqual(office.settle({"mine": 1, "smelt": 0}), ("uneven", "ore", 2))
        self.assertEqual(office.ends_at({"mine": 1, "smelt": 0}, "ore"), 2)
        self.assertEqual(office.ends_at({"smelt": 0}, "ore"), 0)

    def test_no_count_above_0_is_refused_at_settle_alone(self):
        office, _ = self.offices[0]
        for counts in ({}, {"mine": 0}, {"mine": 0, "smelt": 0, "sell": 0}):
            self.assertIs(ask(office, "settle", counts), errors.NoRound)
            self.assertEqual(office.ends_at(counts, "iron"), 0)

    def test_the_highest_and_lowest_that_are_let(self):
        office, _ = self.offices[0]
        self.assertEqual(office.settle({"mine": HIGHEST}), ("uneven", "ore", 2 * HIGHEST))
        self.assertEqual(office.ends_at({"mine": HIGHEST, "sell": HIGHEST}, "iron"), -HIGHEST)
        for number in (-9, 9):
            office.change("mine", "ore", number)
            self.assertEqual(office.number("mine", "ore"), number)
        for number in BEYOND:
            self.assertIs(ask(office, "change", "mine", "ore", number), errors.BadNumber)
            self.assertIs(ask(office, "put_deed", "new", {"iron": 1, "ore": number}), errors.BadNumber)

    def test_an_empty_office(self):
        for method, handed_in, wanted in [
            ("put_deed", ("mine", {"ore": 1}), errors.NoWare),
            ("change", ("mine", "ore", 1), errors.NoDeed),
            ("forbid", ("mine",), errors.NoDeed),
            ("let", ("mine",), errors.NoDeed),
            ("take_back", (), errors.NotDone),
            ("number", ("mine", "ore"), errors.NoDeed),
            ("with_without", ("mine", "mine"), errors.NoDeed),
            ("stands", ("mine",), errors.NoDeed),
            ("fewest_to_forbid", ("mine",), errors.NoDeed),
            ("settle", ({"mine": 1},), errors.NoDeed),
            ("settle", ({},), errors.NoRound),
            ("ends_at", ({}, "ore"), errors.NoWare),
        ]:
            with self.subTest(method=method):
                self.assertIs(ask(Office(), method, *handed_in), wanted)
