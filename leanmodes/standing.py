"""What stands at an office: wares, deeds, their numbers and the forbidden deeds (point 17).

A doing never changes a standing but makes another one: so the office can go back
to any earlier one.
"""


class Standing:
    def __init__(self, ware_names, deed_names, rows, stopped):
        self.ware_names = ware_names
        self.deed_names = deed_names
        self.rows = rows
        self.stopped = stopped


def nothing_put_in():
    return Standing([], [], [], [])


def with_new_ware(standing, name):
    rows = [row + [0] for row in standing.rows]
    return Standing(standing.ware_names + [name], standing.deed_names, rows, standing.stopped)


def with_new_deed(standing, name, numbers):
    row = [numbers.get(ware, 0) for ware in standing.ware_names]
    return Standing(standing.ware_names, standing.deed_names + [name], standing.rows + [row], standing.stopped)


def with_number(standing, deed, ware, number):
    rows = [list(row) for row in standing.rows]
    rows[standing.deed_names.index(deed)][standing.ware_names.index(ware)] = number
    return Standing(standing.ware_names, standing.deed_names, rows, standing.stopped)


def with_forbidden(standing, deed):
    return Standing(standing.ware_names, standing.deed_names, standing.rows, standing.stopped + [deed])


def with_let(standing, deed):
    stopped = [name for name in standing.stopped if name != deed]
    return Standing(standing.ware_names, standing.deed_names, standing.rows, stopped)


def number_of(standing, deed, ware):
    return standing.rows[standing.deed_names.index(deed)][standing.ware_names.index(ware)]


def forbidden_names(standing):
    return [name for name in standing.deed_names if name in standing.stopped]


def without_forbidden(standing):
    names = [name for name in standing.deed_names if name not in standing.stopped]
    rows = [row for name, row in zip(standing.deed_names, standing.rows) if name not in standing.stopped]
    return Standing(standing.ware_names, names, rows, [])
