"""The refusals: each a class of its own, straight under StirError."""


class StirError(ValueError):
    pass


class NoName(StirError):
    def __init__(self, name):
        StirError.__init__(self, f"no name: {name!r}")
        self.name = name


class There(StirError):
    def __init__(self, name):
        StirError.__init__(self, f"there already: {name!r}")
        self.name = name


class Gone(StirError):
    def __init__(self, name):
        StirError.__init__(self, f"not there: {name!r}")
        self.name = name


class NoPlace(StirError):
    def __init__(self, at):
        StirError.__init__(self, f"no such place: {at!r}")
        self.at = at


class NoRule(StirError):
    def __init__(self, rule):
        StirError.__init__(self, f"no rule: {rule!r}")
        self.rule = rule


class NoLog(StirError):
    def __init__(self, number):
        StirError.__init__(self, f"no right log, wrong from entry {number!r} on")
        self.number = number


class Stale(StirError):
    def __init__(self, number):
        StirError.__init__(self, f"stale, the deeds since {number!r} are not all kept")
        self.number = number


class NoWhere(StirError):
    def __init__(self, where):
        StirError.__init__(self, f"no where of a put: {where!r}")
        self.where = where


class NoText(StirError):
    def __init__(self, line):
        StirError.__init__(self, f"no such text, wrong in line {line!r}")
        self.line = line


class Full(StirError):
    pass


class TooMany(StirError):
    pass


class NoLoop(StirError):
    pass


class NoTicket(StirError):
    pass


class Endless(StirError):
    pass


class NoOrders(StirError):
    pass


class NoRow(StirError):
    pass
