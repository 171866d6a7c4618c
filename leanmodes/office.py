"""The office of a works: doings that are kept and can be taken back, and questions (points 16 to 25).

Every method checks its refusals in the order of point 19 before anything is done.
"""

from leanmodes.refusals import (
    check_counts, check_deeds, check_forbidden, check_kept, check_let, check_new_name, check_numbers, check_room,
    check_some, check_wares,
)
from leanmodes.standing import (
    forbidden_names, nothing_put_in, number_of, with_forbidden, with_let, with_new_deed, with_new_ware, with_number,
    without_forbidden,
)
from leanmodes.told import (
    told_end, told_fewest, told_idle, told_lean, told_settled, told_stand, told_sums, told_with_without,
)

MOST_WARES = 6
MOST_DEEDS = 10
MOST_DOINGS = 200


def done_in(counts):
    return [name for name in counts if counts[name] != 0]


class Office:
    def __init__(self):
        # What stood ahead of each doing that is kept, and last what stands now.
        self.stages = [nothing_put_in()]

    def now(self):
        return self.stages[-1]

    def let_now(self):
        return without_forbidden(self.now())

    def keep(self, standing):
        self.stages.append(standing)
        return self.doings()

    def put_ware(self, name):
        now = self.now()
        check_new_name(name, now.ware_names)
        check_room(len(now.ware_names), MOST_WARES)
        check_room(self.doings(), MOST_DOINGS)
        return self.keep(with_new_ware(now, name))

    def put_deed(self, name, numbers):
        now = self.now()
        check_new_name(name, now.deed_names)
        check_wares(now, list(numbers))
        check_numbers(list(numbers.values()))
        check_room(len(now.deed_names), MOST_DEEDS)
        check_room(self.doings(), MOST_DOINGS)
        return self.keep(with_new_deed(now, name, numbers))

    def change(self, deed, ware, number):
        now = self.now()
        check_deeds(now, [deed])
        check_wares(now, [ware])
        check_let(now, [deed])
        check_numbers([number])
        check_room(self.doings(), MOST_DOINGS)
        return self.keep(with_number(now, deed, ware, number))

    def forbid(self, deed):
        now = self.now()
        check_deeds(now, [deed])
        check_let(now, [deed])
        check_room(self.doings(), MOST_DOINGS)
        return self.keep(with_forbidden(now, deed))

    def let(self, deed):
        now = self.now()
        check_deeds(now, [deed])
        check_forbidden(now, deed)
        check_room(self.doings(), MOST_DOINGS)
        return self.keep(with_let(now, deed))

    def take_back(self, many=1):
        check_kept(many, self.doings())
        self.stages = self.stages[:len(self.stages) - many]
        return self.doings()

    def doings(self):
        return len(self.stages) - 1

    def wares(self):
        return list(self.now().ware_names)

    def deeds(self):
        return list(self.now().deed_names)

    def forbidden(self):
        return forbidden_names(self.now())

    def number(self, deed, ware):
        check_deeds(self.now(), [deed])
        check_wares(self.now(), [ware])
        return number_of(self.now(), deed, ware)

    def lean(self):
        return told_lean(self.let_now())

    def with_without(self, one, other):
        check_deeds(self.now(), [one, other])
        check_let(self.now(), [one, other])
        return told_with_without(self.let_now(), one, other)

    def stands(self, deed):
        check_deeds(self.now(), [deed])
        check_let(self.now(), [deed])
        return told_stand(self.let_now(), deed)

    def idle(self):
        return told_idle(self.let_now())

    def sums(self):
        return told_sums(self.let_now())

    def fewest_to_forbid(self, deed):
        check_deeds(self.now(), [deed])
        check_let(self.now(), [deed])
        return told_fewest(self.let_now(), deed)

    def settle(self, counts):
        check_deeds(self.now(), list(counts))
        check_let(self.now(), done_in(counts))
        check_counts(list(counts.values()))
        check_some(list(counts.values()))
        return told_settled(self.let_now(), counts)

    def ends_at(self, counts, ware):
        check_deeds(self.now(), list(counts))
        check_wares(self.now(), [ware])
        check_let(self.now(), done_in(counts))
        check_counts(list(counts.values()))
        return told_end(self.let_now(), counts, ware)
