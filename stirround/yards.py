"""Yards: rows that keep loops and lead them through each deed, and tickets of loops that are not kept."""

from stirround.deeds import done, is_gap
from stirround.errors import Full, Gone, NoName, NoPlace, NoTicket, Stale, There, TooMany
from stirround.loops import MOST_LOOPS, RULES, begun, check_rule, loop_led, step
from stirround.names import MOST_THINGS, is_name
from stirround.slips import is_slip, least_slip, shown


# Of the past the deeds since the forgotten ones are kept, each with the row that it was done to, so that tickets of
# elder times can be read and led on.
class Yard:
    def __init__(self, row):
        check_new_row(row)
        self.standing = list(row)
        self.kept = {}
        self.past = []
        self.forgotten = 0

    def row(self):
        return list(self.standing)

    def count(self):
        return self.forgotten + len(self.past)

    def act(self, deed):
        behind = done(self.standing, deed)
        for name in list(self.kept):
            self.kept[name] = loop_led(self.standing, self.kept[name], deed)
        self.past.append((self.standing, deed))
        self.standing = behind

    def begin(self, name, rule):
        if not is_name(name):
            raise NoName(name)
        if name in self.kept:
            raise There(name)
        check_rule(rule)
        if len(self.kept) >= MOST_LOOPS:
            raise TooMany("as many loops are kept as can be")
        self.kept[name] = begun(self.standing, rule)

    def step(self, name):
        answer = step(self.standing, self.loop(name))
        self.kept[name] = answer[1]
        return answer[0]

    def loop(self, name):
        if name not in self.kept:
            raise Gone(name)
        return self.kept[name]

    def drop(self, name):
        self.loop(name)
        self.kept.pop(name)

    def loops(self):
        return sorted(self.kept)

    def ticket(self, rule):
        return self.ticket_now(begun(self.standing, rule))

    def ticket_of(self, name):
        return self.ticket_now(self.loop(name))

    def page(self, ticket, many):
        loop = self.led_on(ticket)
        things = []
        while len(things) < many and len(loop[2]) > 0:
            answer = step(self.standing, loop)
            things.append(answer[0])
            loop = answer[1]
        return (things, self.ticket_now(loop))

    def forget(self, number):
        if not 0 <= number <= self.count():
            raise NoPlace(number)
        if number > self.forgotten:
            self.past = self.past[number - self.forgotten:]
            self.forgotten = number

    def ticket_now(self, loop):
        return (self.count(), loop[0], loop[1], least_slip(self.standing, loop[2])[0])

    # The loop that the ticket tells, as it is now.
    def led_on(self, ticket):
        self.check_time(ticket)
        loop = loop_at(self.row_at(ticket[0]), ticket)
        for moment in self.past[ticket[0] - self.forgotten:]:
            loop = loop_led(moment[0], loop, moment[1])
        return loop

    # What needs no elder row: for a stale ticket there is none any more.
    def check_time(self, ticket):
        if not 0 <= ticket[0] <= self.count() or ticket[1] not in RULES:
            raise NoTicket("a number or a rule that no ticket of the yard has")
        if ticket[0] < self.forgotten:
            raise Stale(ticket[0])

    def row_at(self, number):
        if number == self.count():
            return self.standing
        return self.past[number - self.forgotten][0]


def check_new_row(row):
    for name in row:
        if not is_name(name):
            raise NoName(name)
    for place, name in enumerate(row):
        if name in row[:place]:
            raise There(name)
    if len(row) > MOST_THINGS:
        raise Full("more things than a row can have")


def loop_at(row, ticket):
    if not is_gap(row, ticket[2]) or not is_slip(row, ticket[3]):
        raise NoTicket("a gap or a slip that is none of the row of that time")
    return (ticket[1], ticket[2], tuple(sorted(shown(row, ticket[3]))))
