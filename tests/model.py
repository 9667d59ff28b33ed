"""A second, slow telling of the document, to hold the program against.

Things are numbered as they are put in, so that a thing that comes back under
its old name is another one. A gap stands in the row as a sign of its own.
"""

import random
import re
import sys
import unittest

from stirround.errors import Full, Gone, NoName, NoPlace, StirError, There

RULES = ("none", "ahead", "all")
WHERES = ("next", "last", "back", "first")
NAMES = ["a", "b", "c", "d", "e", "f", "g", "h", "ab", "abcdefgh", "zz", "z"]
FORTY = ["n" + one + other for one in "abcde" for other in "stuvwxyz"]


def refusal_of(row, deed):
    """The refusal (its class, its field) that the deed is due, or None."""
    places = range(len(row) + 1)
    if deed[0] == "put":
        if not (0 < len(deed[1]) < 9 and set(deed[1]) <= set("abcdefghijklmnopqrstuvwxyz")):
            return (NoName, deed[1])
        if row.count(deed[1]):
            return (There, deed[1])
        if deed[2] not in places:
            return (NoPlace, deed[2])
        return (Full, None) if len(row) == 40 else None
    if deed[0] == "turn":
        if deed[1] not in places:
            return (NoPlace, deed[1])
        return None if deed[2] in places[deed[1]:] else (NoPlace, deed[2])
    if not row.count(deed[1]):
        return (Gone, deed[1])
    if deed[0] == "move" and deed[2] not in places[:-1]:
        return (NoPlace, deed[2])
    return None


def field_of(error):
    """The one value that a refusal bears, None where it bears none."""
    values = list(vars(error).values())
    return values[0] if values else None


def steps_of(call, *arguments):
    """How many rows of code a call goes through."""
    count = [0]

    def tracer(frame, event, argument):
        count[0] += event == "line"
        return tracer

    kept = sys.gettrace()
    sys.settrace(tracer)
    try:
        call(*arguments)
    finally:
        sys.settrace(kept)
    return count[0]


class RefusalCase(unittest.TestCase):
    def assert_refused(self, error, field, call, *arguments):
        with self.assertRaises(StirError) as caught:
            call(*arguments)
        self.assertIs(type(caught.exception), error)
        self.assertEqual(field_of(caught.exception), field)


class Told:
    """One loop over a World, with all that became of it."""

    def __init__(self, world, rule):
        self.world = world
        self.rule = rule
        self.coming = list(world.things)
        self.owed = list(world.things)
        self.gap_in = ["GAP"] + list(world.things)

    def gap(self):
        return self.gap_in.index("GAP")

    def ahead(self):
        return self.gap_in[self.gap() + 1:]

    def put(self, thing, at):
        if at < self.gap():
            self.gap_in.insert(at, thing)
        else:
            self.gap_in.insert(at + 1, thing)

    def joined_by(self, thing):
        if self.rule == "all" or (self.rule == "ahead" and thing in self.ahead()):
            self.coming.append(thing)
            self.owed.append(thing)

    def taken(self, thing):
        self.gap_in.remove(thing)

    def forgotten(self, thing):
        if thing in self.coming:
            self.coming.remove(thing)
            self.owed.remove(thing)

    def turned(self):
        gap = self.gap()
        self.gap_in = self.world.things[:gap] + ["GAP"] + self.world.things[gap:]

    def step(self):
        """The number of the thing that is told, or None."""
        ways = self.ahead() + self.world.things
        due = [thing for thing in ways if thing in self.coming]
        if not due:
            return None
        self.tell(due[0])
        return due[0]

    def tell(self, thing):
        self.coming.remove(thing)
        self.gap_in.remove("GAP")
        self.gap_in.insert(self.gap_in.index(thing) + 1, "GAP")

    def as_loop(self):
        return (self.rule, self.gap(), tuple(sorted(self.world.names[thing] for thing in self.coming)))


class World:
    """A row of numbered things, and the loops over it."""

    def __init__(self, row):
        self.names = dict(enumerate(row))
        self.things = list(self.names)
        self.loops = []

    def row(self):
        return [self.names[thing] for thing in self.things]

    def begin(self, rule):
        self.loops.append(Told(self, rule))
        return self.loops[-1]

    def set_at(self, loop, gap, coming):
        """Puts a loop where the test wants it."""
        loop.gap_in.remove("GAP")
        loop.gap_in.insert(gap, "GAP")
        loop.coming = [thing for thing in self.things if self.names[thing] in coming]
        loop.owed = list(loop.coming)

    def act(self, deed):
        if deed[0] == "put":
            self.names[len(self.names)] = deed[1]
            self.put(len(self.names) - 1, deed[2])
            for loop in self.loops:
                loop.joined_by(len(self.names) - 1)
        elif deed[0] == "turn":
            stretch = self.things[deed[1]:deed[2]]
            stretch.reverse()
            self.things[deed[1]:deed[2]] = stretch
            for loop in self.loops:
                loop.turned()
        else:
            thing = next(one for one in self.things if self.names[one] == deed[1])
            self.things.remove(thing)
            for loop in self.loops:
                loop.taken(thing)
                if deed[0] == "take":
                    loop.forgotten(thing)
            if deed[0] == "move":
                self.put(thing, deed[2])

    def put(self, thing, at):
        self.things.insert(at, thing)
        for loop in self.loops:
            loop.put(thing, at)


class Judge:
    """Looks at a log entry by entry, and keeps all that each loop saw, thing by thing."""

    def __init__(self, row):
        self.world = World(row)
        self.open = {}
        self.seen = {}

    def lets_by(self, entry):
        if entry[0] == "begin":
            if not re.fullmatch("[a-z]{1,8}", entry[1]) or entry[1] in self.seen or entry[2] not in RULES:
                return False
            self.open[entry[1]] = self.world.begin(entry[2])
            self.seen[entry[1]] = {"begun": list(self.world.things), "joined": [], "told": [], "taken": [], "left": []}
        elif entry[0] == "tell":
            things = [] if entry[1] not in self.open else self.open[entry[1]].coming
            due = [thing for thing in things if self.world.names[thing] == entry[2]]
            if not due:
                return False
            self.open[entry[1]].tell(due[0])
            self.seen[entry[1]]["told"].append(due[0])
        elif entry[0] == "over":
            if entry[1] not in self.open or self.open[entry[1]].coming:
                return False
            self.world.loops.remove(self.open.pop(entry[1]))
        elif refusal_of(self.world.row(), entry) is not None:
            return False
        else:
            self.act(entry)
        return True

    def act(self, deed):
        ahead = {name: set(loop.coming) for name, loop in self.open.items()}
        self.world.act(deed)
        for name, loop in self.open.items():
            self.seen[name]["joined"].extend(set(loop.coming) - ahead[name])
            self.seen[name]["taken"].extend(ahead[name] - set(loop.coming))

    def first_wrong(self, log):
        for number, entry in enumerate(log):
            if not self.lets_by(entry):
                return number
        return None

    def loops(self):
        return {name: loop.as_loop() for name, loop in self.open.items()}

    def tally(self, name):
        left = [] if name not in self.open else self.open[name].coming
        return tuple(len(self.seen[name][part]) for part in ("begun", "joined", "told", "taken")) + (len(left),)


def drawn_entry(draw, judge, names):
    """A right entry behind what the judge has let by; loops are begun by these names."""
    row = judge.world.row()
    fresh = [name for name in names if name not in judge.seen]
    tells = [
        ("tell", name, judge.world.names[thing]) for name, loop in judge.open.items() for thing in loop.coming
    ]
    overs = [("over", name) for name, loop in judge.open.items() if not loop.coming]
    kind = draw.choice(["begin", "tell", "tell", "tell", "over", "deed", "deed", "deed"])
    if kind == "begin" and fresh:
        return ("begin", draw.choice(fresh), draw.choice(RULES))
    if kind == "tell" and tells:
        return draw.choice(tells)
    if kind == "over" and overs:
        return draw.choice(overs)
    return drawn_deed(draw, row, ("put", "take", "move", "turn") if len(row) < 40 else ("take", "move", "turn"))


def drawn_log(draw, row, length, names):
    """A right log of so many entries, tells in any order."""
    judge = Judge(row)
    log = []
    while len(log) < length:
        log.append(drawn_entry(draw, judge, names))
        assert judge.lets_by(log[-1])
    return log


def drawn_loops(draw, row, many):
    """Loops of the row, as like and unlike as it comes."""
    loops = []
    for number in range(many):
        coming = draw.sample(sorted(row), draw.randint(0, len(row)))
        if loops and draw.random() < 0.6:
            other = draw.choice(loops)[2]
            coming = [name for name in coming if name in other] if draw.random() < 0.5 else set(coming) | set(other)
        loops.append((draw.choice(RULES), draw.randint(0, len(row)), tuple(sorted(coming))))
    return loops


def slow_ran(kinds, crowd, rule, most):
    """The run through a crowd, done in a World of things that all have names of their own."""
    errands = {word: (puts, goes) for word, puts, goes in kinds}
    kind_of = {f"t{number}": word for number, word in enumerate(crowd)}
    world = World(list(kind_of))
    loop = world.begin(rule)
    told, rounds = [], 0
    while loop.coming and len(told) < most:
        goes_round = not set(loop.ahead()) & set(loop.coming)
        rounds += goes_round or not told
        name = world.names[loop.step()]
        told.append(kind_of[name])
        puts, goes = errands[kind_of[name]]
        pack = [name]
        for where, word in puts:
            row = world.row()
            fresh = f"t{len(kind_of)}"
            kind_of[fresh] = word
            places = {"next": row.index(pack[-1]) + 1, "last": len(row), "back": row.index(name), "first": 0}
            world.act(("put", fresh, places[where]))
            pack.extend([fresh] if where == "next" else [])
        if goes:
            world.act(("take", name))
    return told, [kind_of[name] for name in world.row()], rounds, not loop.coming


def drawn_book(draw, ending=False, most_puts=3):
    """Kinds in any order; where it is to end, each puts in such alone as stand behind it in another order."""
    words = draw.sample(NAMES, draw.randint(1, 6))
    others = draw.sample(words, len(words))
    kinds = []
    for word in words:
        free = others[others.index(word) + 1:] if ending else words
        puts = [(draw.choice(WHERES), draw.choice(free)) for number in range(draw.randint(0, most_puts)) if free]
        kinds.append((word, puts, draw.random() < 0.5))
    return kinds


# Gaps, rules and things to come that no loop of the row a b c has.
NO_LOOPS_OF_ABC = [
    ("", 0, ()), ("None", 0, ()), ("ahea", 0, ("a",)), ("all ", 0, ()), ("all", -1, ()), ("all", 4, ()),
    ("none", 10 ** 59, ("a",)), ("none", -(10 ** 59), ()), ("all", 0, ("d",)), ("all", 0, ("a", "d")),
    ("ahead", 0, ("", "a")), ("ahead", 1, ("A",)), ("all", 0, ("a", "a")), ("none", 2, ("b", "a")),
    ("all", 0, ("a", "b", "c", "d")),
]


def all_deeds(row, names, beyond=0):
    """Every deed with one of the names, places up to so many beyond the bounds."""
    places = range(-beyond, len(row) + 1 + beyond)
    deeds = []
    for name in names:
        deeds.append(("take", name))
        for at in places:
            deeds.append(("put", name, at))
            deeds.append(("move", name, at))
    for low in places:
        for high in places:
            deeds.append(("turn", low, high))
    return deeds


def drawn_deed(draw, row, kinds=("put", "take", "move", "turn")):
    """A deed that is not refused, or None where none of the kinds will do."""
    free = [name for name in NAMES if name not in row]
    kinds = [kind for kind in kinds if kind == "turn" or (free if kind == "put" else row)]
    if not kinds:
        return None
    kind = draw.choice(kinds)
    if kind == "put":
        return (kind, draw.choice(free), draw.randint(0, len(row)))
    if kind == "take":
        return (kind, draw.choice(row))
    if kind == "move":
        return (kind, draw.choice(row), draw.randrange(len(row)))
    low = draw.randint(0, len(row))
    return (kind, low, draw.randint(low, len(row)))


def drawn(seed):
    return random.Random(seed)
