import random

from drawn import ANY_NUMBER, spoil
from offices import DEEDS, DOINGS, WARES, OfficeCase, Record, answers, ask, office_of, questions, standing

from leanmodes import errors
from leanmodes.office import Office

SIGNS = [chr(code) for code in range(ord(" "), ord("~") + 1) if chr(code) != "%"]
LETTERS = "abcdefghijklmnopqrstuvwxyz"

GOOD_NAMES = ["a", "z", "mn", "ore", "iron", "smelt", "abcdef", "zzzzzz", *LETTERS]
BAD_NAMES = [
    "", "Mill", "MILL", "milL", "abcdefg", "a" * 7, "a" * 20, "a b", " ab", "ab ", " ", "      ", "x1", "1x", "12",
    "a_b", "a-b", "a.b", "'a'", "None", "{a}", "\\n", *[sign for sign in SIGNS if sign not in LETTERS],
]


class Names(OfficeCase):
    def test_names_that_point_16_lets(self):
        for name in GOOD_NAMES:
            with self.subTest(name=name):
                office = Office()
                self.assertEqual(office.put_ware(name), 1)
                self.assertEqual(office.put_deed(name, {name: 3}), 2)
                self.assertEqual((office.wares(), office.deeds(), office.number(name, name)), ([name], [name], 3))

    def test_names_that_it_does_not_let(self):
        for name in BAD_NAMES:
            with self.subTest(name=name):
                office = Office()
                self.assertIs(ask(office, "put_ware", name), errors.BadName)
                self.assertIs(ask(office, "put_deed", name, {}), errors.BadName)
                self.assertEqual((office.wares(), office.deeds(), office.doings()), ([], [], 0))

    def test_every_sign_in_a_name(self):
        for sign in SIGNS:
            for name in (sign, "ab" + sign, sign + "ab", "a" + sign + "b", "abcde" + sign):
                wanted = 1 if sign in LETTERS else errors.BadName
                self.assertEqual(ask(Office(), "put_ware", name), wanted, name)
                self.assertEqual(ask(Office(), "put_deed", name, {}), wanted, name)

    def test_every_length(self):
        for length in range(21):
            wanted = 1 if 1 <= length <= 6 else errors.BadName
            self.assertEqual(ask(Office(), "put_ware", "q" * length), wanted)
            self.assertEqual(ask(Office(), "put_deed", "q" * length, {}), wanted)

    def test_no_two_wares_and_no_two_deeds_are_alike_but_a_ware_and_a_deed_may_be(self):
        office = Office()
        office.put_ware("ore")
        self.assertEqual(office.put_deed("ore", {"ore": -2}), 2)
        self.assertIs(ask(office, "put_ware", "ore"), errors.Taken)
        self.assertIs(ask(office, "put_deed", "ore", {}), errors.Taken)
        office.put_deed("iron", {})
        self.assertEqual(office.put_ware("iron"), 4)
        office.forbid("ore")
        self.assertIs(ask(office, "put_deed", "ore", {}), errors.Taken)
        self.assertEqual((office.wares(), office.deeds()), (["ore", "iron"], ["ore", "iron"]))

    def test_wares_and_deeds_are_told_in_the_order_in_which_they_were_put_in(self):
        draw = random.Random(51)
        for _ in range(20):
            wares, deeds = draw.sample(WARES, 6), draw.sample(DEEDS, 10)
            office = Office()
            for kind in draw.sample([0] * 6 + [1] * 10, 16):
                if kind == 0:
                    office.put_ware(wares[len(office.wares())])
                else:
                    office.put_deed(deeds[len(office.deeds())], {})
            stopped = draw.sample(deeds, 5)
            for deed in stopped:
                office.forbid(deed)
            self.assertEqual((office.wares(), office.deeds()), (wares, deeds))
            self.assertEqual(office.forbidden(), [deed for deed in deeds if deed in stopped])


class Doings(OfficeCase):
    def test_an_office_begins_without_anything(self):
        office = Office()
        self.assertEqual(standing(office), ([], [], [], []))
        self.assertEqual(office.doings(), 0)
        self.assertEqual((office.lean(), office.idle(), office.sums()), ([], [], []))

    def test_each_doing_answers_how_many_are_kept(self):
        office = Office()
        done = [
            office.put_ware("ore"), office.put_deed("mine", {"ore": 2}), office.change("mine", "ore", 3),
            office.change("mine", "ore", 3), office.forbid("mine"), office.let("mine"), office.put_ware("iron"),
        ]
        self.assert_row(done, [1, 2, 3, 4, 5, 6, 7])
        self.assertEqual(office.doings(), 7)
        self.assert_whole(office.doings())

    def test_numbers_that_nothing_named_are_0(self):
        office = Office()
        office.put_deed("mine", {})
        office.put_ware("ore")
        office.put_ware("iron")
        office.put_deed("smelt", {"iron": 9})
        office.put_ware("coal")
        self.assertEqual(standing(office)[3], [0, 0, 0, 0, 9, 0])
        for number in standing(office)[3]:
            self.assert_whole(number)

    def test_every_number_that_a_deed_may_have(self):
        office = Office()
        office.put_ware("ore")
        office.put_deed("mine", {})
        for number in range(-9, 10):
            office.change("mine", "ore", number)
            self.assertEqual(office.number("mine", "ore"), number)
            office.put_deed("smelt", {"ore": number})
            self.assertEqual(office.number("smelt", "ore"), number)
            office.take_back()

    def test_the_dict_stays_and_changing_it_afterwards_changes_nothing(self):
        for numbers in ({}, {"iron": 2}, {"ore": -3, "iron": 1}):
            office = office_of(2, [])
            handed_in = dict(numbers)
            office.put_deed("mine", handed_in)
            self.assertEqual(handed_in, numbers)
            asked = questions(office)
            first = answers(office, asked)
            handed_in["ore"] = 7
            handed_in["iron"] = "spoilt"
            self.assertEqual(answers(office, asked), first)
            self.assertEqual(office.number("mine", "ore"), numbers.get("ore", 0))

    def test_numbers_of_forbidden_deeds(self):
        office = office_of(2, [[2, 0], [-3, 1]], [1])
        self.assertEqual([office.number("smelt", ware) for ware in ("ore", "iron")], [-3, 1])
        office.put_ware("coal")
        self.assertEqual(office.number("smelt", "coal"), 0)
        self.assertIs(ask(office, "change", "smelt", "ore", 4), errors.Forbidden)
        office.let("smelt")
        self.assertEqual([office.number("smelt", ware) for ware in office.wares()], [-3, 1, 0])

    def test_changed_numbers_of_one_deed_leave_the_others(self):
        office = office_of(2, [[1, 2], [1, 2], [1, 2]])
        office.change("smelt", "iron", -5)
        self.assertEqual(standing(office)[3], [1, 2, 1, -5, 1, 2])

    def test_told_names_that_are_changed_change_nothing(self):
        office = office_of(2, [[1, 2], [1, 2], [1, 2]], [0, 2])
        kept = standing(office)
        for method in ("wares", "deeds", "forbidden"):
            spoil(ask(office, method))
        self.assertEqual(standing(office), kept)
        self.assertEqual(office.put_ware("coal"), 8)
        self.assertEqual(office.wares(), ["ore", "iron", "coal"])


def drawn_name(draw, names):
    return draw.choice(names) if draw.random() < 0.9 else draw.choice(["", "Mill", "abcdefg", "a b", "x1", "none"])


def drawn_doing(draw):
    method = draw.choice(DOINGS + ["put_deed", "change", "take_back"])
    deed, ware = drawn_name(draw, DEEDS), drawn_name(draw, WARES)
    number = draw.choice((draw.randint(-9, 9), draw.randint(-9, 9), draw.randint(-12, 12), 10, -10, 10 ** 30))
    if method == "put_ware":
        return (method, ware)
    if method == "put_deed":
        wares = [drawn_name(draw, WARES) for _ in range(draw.choice((0, 1, 2, 3, 6)))]
        return (method, deed, {ware: draw.choice((10, *ANY_NUMBER, *ANY_NUMBER)) for ware in wares})
    if method == "change":
        return (method, deed, ware, number)
    if method == "take_back":
        return draw.choice([(method,), (method, 0), (method, 1), (method, draw.randint(2, 9))])
    return (method, deed)


class DrawnDoings(OfficeCase):
    def test_long_drawn_rows_of_doings(self):
        refused = done = 0
        for seed in range(40):
            draw = random.Random(seed)
            office, record = Office(), Record()
            for _ in range(200):
                doing = drawn_doing(draw)
                refused += len(record.due(doing[0], doing[1:])) > 0
                done += len(record.due(doing[0], doing[1:])) == 0
                self.assert_done(office, record, *doing)
            self.assert_stands(office, record)
        self.assertGreater(refused, 1000)
        self.assertGreater(done, 1000)

    def test_rows_that_come_to_two_hundred(self):
        for seed in range(5):
            draw = random.Random(seed)
            office, record = Office(), Record()
            while len(record.ahead) < 200:
                doing = drawn_doing(draw)
                if doing[0] != "take_back" and not record.due(doing[0], doing[1:]):
                    self.assert_done(office, record, *doing)
            self.assert_stands(office, record)
            for _ in range(60):
                self.assert_done(office, record, *drawn_doing(draw))
            self.assert_stands(office, record)
            self.assert_done(office, record, "take_back", len(record.ahead))
            self.assert_stands(office, Record())

    def test_all_answers_come_again_when_doings_are_taken_back(self):
        for seed in range(8):
            draw = random.Random(100 + seed)
            office, record = Office(), Record()
            seen = []
            while len(seen) < 40:
                asked = questions(office, [{deed: 1 for deed in office.deeds()}])
                seen.append((asked, answers(office, asked), office.doings()))
                doing = drawn_doing(draw)
                while doing[0] == "take_back" or record.due(doing[0], doing[1:]):
                    doing = drawn_doing(draw)
                self.assert_done(office, record, *doing)
            while office.doings() > 0:
                many = min(office.doings(), draw.choice((1, 1, 2, 5)))
                self.assertEqual(office.take_back(many), office.doings())
                asked, told, doings = seen[office.doings()]
                self.assertEqual(office.doings(), doings)
                self.assertEqual(answers(office, asked), told)


def office_of_two_hundred(record):
    office = Office()
    doings = [("put_ware", "ore"), ("put_deed", "mine", {"ore": 2})]
    doings += [("change", "mine", "ore", step % 19 - 9) for step in range(150)]
    doings += [(("forbid", "let")[step % 2], "mine") for step in range(48)]
    for doing in doings:
        ask(office, *doing)
        record.do(*doing)
    return office


class TwoHundred(OfficeCase):
    def setUp(self):
        self.record = Record()
        self.office = office_of_two_hundred(self.record)

    def test_the_two_hundred_and_first_is_refused(self):
        self.assert_stands(self.office, self.record)
        self.assertEqual(self.office.doings(), 200)
        for doing in [
            ("put_ware", "iron"), ("put_deed", "smelt", {}), ("put_deed", "smelt", {"ore": 1}),
            ("change", "mine", "ore", 1), ("forbid", "mine"),
        ]:
            with self.subTest(doing=doing):
                self.assertEqual(self.assert_refused(self.office, self.record, *doing), ["NoRoom"])
        self.assertIs(ask(self.office, "put_ware", "iron"), errors.NoRoom)

    def test_or_by_the_refusal_that_goes_ahead(self):
        for doing, wanted in [
            (("put_ware", "Iron"), errors.BadName),
            (("put_ware", "ore"), errors.Taken),
            (("put_deed", "", {"coal": 99}), errors.BadName),
            (("put_deed", "mine", {"coal": 99}), errors.Taken),
            (("put_deed", "smelt", {"coal": 99}), errors.NoWare),
            (("put_deed", "smelt", {"ore": 99}), errors.BadNumber),
            (("change", "smelt", "coal", 99), errors.NoDeed),
            (("change", "mine", "coal", 99), errors.NoWare),
            (("change", "mine", "ore", 99), errors.BadNumber),
            (("forbid", "smelt"), errors.NoDeed),
            (("let", "smelt"), errors.NoDeed),
            (("let", "mine"), errors.NotForbidden),
            (("take_back", 201), errors.NotDone),
        ]:
            with self.subTest(doing=doing):
                self.assertIs(ask(self.office, *doing), wanted)
                self.assert_refused(self.office, self.record, *doing)

    def test_taken_back_there_is_room_again(self):
        self.assertEqual(self.office.take_back(), 199)
        self.record.do("take_back")
        self.assert_stands(self.office, self.record)
        self.assertEqual(self.office.forbidden(), ["mine"])
        self.assertIs(ask(self.office, "forbid", "mine"), errors.Forbidden)
        self.assertEqual(self.office.let("mine"), 200)
        self.assertIs(ask(self.office, "put_ware", "iron"), errors.NoRoom)
        self.assertEqual(self.office.take_back(2), 198)
        self.assertEqual(self.office.put_ware("iron"), 199)
        self.assertEqual(self.office.put_ware("coal"), 200)
        self.assertIs(ask(self.office, "put_ware", "tin"), errors.NoRoom)

    def test_none_one_several_all_and_more_than_all_are_taken_back(self):
        for many in (0, 1, 7, 0, 41, 150):
            self.assert_done(self.office, self.record, "take_back", many)
            self.assert_stands(self.office, self.record)
        self.assertEqual(self.office.doings(), 1)
        for many in (2, 3, 200, 10 ** 5000):
            self.assert_refused(self.office, self.record, "take_back", many)
        self.assert_done(self.office, self.record, "take_back", 1)
        for handed_in in ((), (1,), (2,)):
            self.assert_refused(self.office, self.record, "take_back", *handed_in)
        self.assertEqual(self.office.take_back(0), 0)

    def test_all_at_once(self):
        self.assertEqual(self.office.take_back(200), 0)
        self.assertEqual(standing(self.office), ([], [], [], []))
        self.assertEqual(self.office.put_deed("ore", {}), 1)

    def test_a_doing_taken_back_is_not_done_again_by_anything_else(self):
        self.office.take_back(200)
        self.office.put_ware("iron")
        self.assertIs(ask(self.office, "number", "mine", "ore"), errors.NoDeed)
        self.assertEqual(standing(self.office), (["iron"], [], [], []))

    def test_a_seventh_ware_and_an_eleventh_deed(self):
        office = office_of(6, [[0] * 6 for _ in range(10)], [0, 5])
        self.assertIs(ask(office, "put_ware", "tin"), errors.NoRoom)
        self.assertIs(ask(office, "put_deed", "roll", {}), errors.NoRoom)
        self.assertEqual(office.doings(), 18)
        office.take_back(18)
        for name in DEEDS:
            office.put_deed(name, {})
        self.assertIs(ask(office, "put_deed", "roll", {}), errors.NoRoom)
        self.assertEqual(office.put_ware("ore"), 11)
        office.take_back(2)
        self.assertEqual(office.put_deed("roll", {}), 10)

    def test_the_arguments_have_their_names(self):
        office = Office()
        self.assertEqual(office.put_ware(name="ore"), 1)
        self.assertEqual(office.put_deed(numbers={"ore": 1}, name="mine"), 2)
        self.assertEqual(office.change(number=2, ware="ore", deed="mine"), 3)
        self.assertEqual(office.number(ware="ore", deed="mine"), 2)
        self.assertEqual(office.forbid(deed="mine"), 4)
        self.assertEqual(office.let(deed="mine"), 5)
        self.assertEqual(office.take_back(many=2), 3)
        self.assertEqual(office.with_without(other="mine", one="mine"), [])
        self.assertEqual(office.stands(deed="mine"), ("barred", [("ore", 1)]))
        self.assertEqual(office.fewest_to_forbid(deed="mine"), [])
        self.assertEqual(office.settle(counts={"mine": 3}), ("uneven", "ore", 6))
        self.assertEqual(office.ends_at(ware="ore", counts={"mine": 4}), 8)
