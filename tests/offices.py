"""What the tests of the office need: offices of given works, all their answers, and a record kept apart from them."""

import copy
import re

from drawn import HIGHEST, REFUSALS, Case, lists_within, spoil

from leanmodes import errors
from leanmodes.office import Office

# A ware and a deed may have the same name.
WARES = ["ore", "iron", "coal", "a", "zzzzzz", "mine"]
DEEDS = ["mine", "smelt", "sell", "waste", "ore", "b", "zzzzzz", "aaaaaa", "burn", "a"]

DOINGS = ["put_ware", "put_deed", "change", "forbid", "let"]


def by_name(names, row):
    return {name: number for name, number in zip(names, row)}


def told_by_name(names, row):
    return [(name, number) for name, number in zip(names, row) if number != 0]


def office_of(width, deeds, stopped=()):
    """The office of these works, with the deeds at the stopped places forbidden."""
    office = Office()
    for name in WARES[:width]:
        office.put_ware(name)
    for name, row in zip(DEEDS, deeds):
        office.put_deed(name, by_name(WARES, row))
    for place in stopped:
        office.forbid(DEEDS[place])
    return office


def ask(office, method, *handed_in):
    """The answer, or the error's own class."""
    try:
        return getattr(office, method)(*handed_in)
    except errors.WorksError as error:
        return type(error)


def standing(office):
    """All that is told of what stands, forbidden or not."""
    numbers = [office.number(deed, ware) for deed in office.deeds() for ware in office.wares()]
    return (office.wares(), office.deeds(), office.forbidden(), numbers)


def questions(office, some_counts=()):
    """All questions that need no counts, and those that do with the counts given."""
    wares, deeds = office.wares(), office.deeds()
    asked = [("wares",), ("deeds",), ("forbidden",), ("lean",), ("idle",), ("sums",)]
    asked += [("number", deed, ware) for deed in deeds for ware in wares]
    asked += [("with_without", one, other) for one in deeds for other in deeds]
    asked += [(method, deed) for method in ("stands", "fewest_to_forbid") for deed in deeds]
    for counts in some_counts:
        asked += [("settle", counts)] + [("ends_at", counts, ware) for ware in wares]
    return asked


def answers(office, asked):
    return [ask(office, *question) for question in asked]


class Record:
    """What stands at an office, kept apart from it, and the refusals that are due."""

    def __init__(self):
        self.wares = []
        self.deeds = {}
        self.stopped = set()
        self.ahead = []

    def standing(self):
        return (
            self.wares,
            list(self.deeds),
            [deed for deed in self.deeds if deed in self.stopped],
            [self.deeds[deed].get(ware, 0) for deed in self.deeds for ware in self.wares],
        )

    def due(self, method, handed_in):
        return [name for name in REFUSALS if getattr(self, "due_at_" + method)(*handed_in).get(name)]

    def no_room(self, things, most):
        return len(things) >= most or len(self.ahead) >= 200

    def due_at_put_ware(self, name):
        return {
            "BadName": not re.fullmatch("[a-z]{1,6}", name),
            "Taken": name in self.wares,
            "NoRoom": self.no_room(self.wares, 6),
        }

    def due_at_put_deed(self, name, numbers):
        return {
            "BadName": not re.fullmatch("[a-z]{1,6}", name),
            "Taken": name in self.deeds,
            "NoWare": any(ware not in self.wares for ware in numbers),
            "BadNumber": any(number not in range(-9, 10) for number in numbers.values()),
            "NoRoom": self.no_room(self.deeds, 10),
        }

    def due_at_change(self, deed, ware, number):
        return {
            "NoDeed": deed not in self.deeds,
            "NoWare": ware not in self.wares,
            "Forbidden": deed in self.stopped,
            "BadNumber": number not in range(-9, 10),
            "NoRoom": self.no_room([], 1),
        }

    def due_at_forbid(self, deed):
        return {
            "NoDeed": deed not in self.deeds,
            "Forbidden": deed in self.stopped,
            "NoRoom": self.no_room([], 1),
        }

    def due_at_let(self, deed):
        return {
            "NoDeed": deed not in self.deeds,
            "NotForbidden": deed in self.deeds and deed not in self.stopped,
            "NoRoom": self.no_room([], 1),
        }

    def due_at_take_back(self, many=1):
        return {"NotDone": many > len(self.ahead)}

    def due_at_number(self, deed, ware):
        return {"NoDeed": deed not in self.deeds, "NoWare": ware not in self.wares}

    def due_at_with_without(self, one, other):
        return {
            "NoDeed": one not in self.deeds or other not in self.deeds,
            "Forbidden": one in self.stopped or other in self.stopped,
        }

    def due_at_stands(self, deed):
        return {"NoDeed": deed not in self.deeds, "Forbidden": deed in self.stopped}

    def due_at_fewest_to_forbid(self, deed):
        return self.due_at_stands(deed)

    def due_at_settle(self, counts):
        return {
            "NoDeed": any(deed not in self.deeds for deed in counts),
            "Forbidden": any(count != 0 for deed, count in counts.items() if deed in self.stopped),
            "BadNumber": any(count < 0 or count > HIGHEST for count in counts.values()),
            "NoRound": all(count <= 0 for count in counts.values()),
        }

    def due_at_ends_at(self, counts, ware):
        due = self.due_at_settle(counts)
        due.pop("NoRound")
        return {**due, "NoWare": ware not in self.wares}

    def do(self, method, *handed_in):
        """Does what is not refused and answers how many doings are kept."""
        if method == "take_back":
            for _ in range(*(handed_in or [1])):
                self.wares, self.deeds, self.stopped = self.ahead.pop()
        else:
            self.ahead.append(copy.deepcopy((self.wares, self.deeds, self.stopped)))
            getattr(self, "do_" + method)(*handed_in)
        return len(self.ahead)

    def do_put_ware(self, name):
        self.wares.append(name)

    def do_put_deed(self, name, numbers):
        self.deeds[name] = dict(numbers)

    def do_change(self, deed, ware, number):
        self.deeds[deed][ware] = number

    def do_forbid(self, deed):
        self.stopped.add(deed)

    def do_let(self, deed):
        self.stopped.remove(deed)


class OfficeCase(Case):
    def assert_stands(self, office, record):
        self.assertEqual(standing(office), record.standing())
        self.assertEqual(office.doings(), len(record.ahead))

    def assert_refused(self, office, record, method, *handed_in):
        """By the first refusal due, of its own class, with all as it was; answers which were due."""
        due = record.due(method, handed_in)
        kept = copy.deepcopy(handed_in)
        self.assertIs(ask(office, method, *handed_in), getattr(errors, due[0]))
        self.assertEqual(handed_in, kept)
        self.assert_stands(office, record)
        return due

    def assert_done(self, office, record, method, *handed_in):
        """Done, or refused where a refusal is due."""
        if record.due(method, handed_in):
            self.assert_refused(office, record, method, *handed_in)
        else:
            kept = copy.deepcopy(handed_in)
            told = ask(office, method, *handed_in)
            self.assertEqual(handed_in, kept)
            self.assert_whole(told)
            self.assertEqual(told, record.do(method, *handed_in))

    def assert_all_apart(self, office, asked):
        """Every told list, within lists and tuples too, is new: spoiling it changes no later answer."""
        first = copy.deepcopy(answers(office, asked))
        told = answers(office, asked)
        every = lists_within(told)
        self.assertEqual(len({id(found) for found in every}), len(every))
        spoil(told)
        self.assertEqual(answers(office, asked), first)
