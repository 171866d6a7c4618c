"""The refusals of the office, one error class for each (point 19)."""


class WorksError(ValueError):
    pass


class BadName(WorksError):
    pass


class Taken(WorksError):
    pass


class NoDeed(WorksError):
    pass


class NoWare(WorksError):
    pass


class Forbidden(WorksError):
    pass


class NotForbidden(WorksError):
    pass


class BadNumber(WorksError):
    pass


class NoRound(WorksError):
    pass


class NotDone(WorksError):
    pass


class NoRoom(WorksError):
    pass
