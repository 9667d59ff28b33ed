"""Errands: what told things put in, and loops that run through crowds of such things."""

from stirround.deeds import gap_behind_put, gap_behind_take
from stirround.errors import NoName, NoWhere, There, TooMany
from stirround.loops import check_rule, joins
from stirround.names import is_name

WHERES = ("next", "last", "back", "first")
MOST_KINDS = 8
MOST_PUTS = 6
MOST_IN_CROWD = 12


class Errands:
    def __init__(self, kinds):
        check_kinds(kinds)
        self.puts_by_word = {}
        self.goes_by_word = {}
        for kind in kinds:
            self.puts_by_word[kind[0]] = tuple(kind[1])
            self.goes_by_word[kind[0]] = kind[2]

    def words(self):
        return list(self.puts_by_word)

    def puts(self, word):
        check_word(self.puts_by_word, word)
        return list(self.puts_by_word[word])

    def goes(self, word):
        check_word(self.goes_by_word, word)
        return self.goes_by_word[word]


def ran(book, crowd, rule, most):
    check_rule(rule)
    check_crowd(book, crowd)
    run = Run(crowd, rule)
    told = []
    while len(told) < most and run.goes_on():
        word = run.tell()
        run.do_errand(book.puts(word), book.goes(word))
        told.append(word)
    return (told, run.things, run.rounds, not run.goes_on())


# A crowd under way: its things by their kinds, and of each whether it is to come. While a told thing does its errand,
# the gap stays right behind it, so that all places can be told from the gap.
class Run:
    def __init__(self, crowd, rule):
        self.rule = rule
        self.things = list(crowd)
        self.awaited = [True for word in crowd]
        self.gap = 0
        self.rounds = 0

    def goes_on(self):
        return True in self.awaited

    def tell(self):
        goes_round = True not in self.awaited[self.gap:]
        if goes_round or self.rounds == 0:
            self.rounds += 1
        place = self.awaited.index(True, 0 if goes_round else self.gap)
        self.awaited[place] = False
        self.gap = place + 1
        return self.things[place]

    def do_errand(self, puts, goes):
        nexts = 0
        for put in puts:
            self.put_in(put[1], self.place_by(put[0], nexts))
            if put[0] == "next":
                nexts += 1
        if goes:
            self.take_out(self.gap - 1)

    def place_by(self, where, nexts):
        if where == "next":
            return self.gap + nexts
        if where == "last":
            return len(self.things)
        if where == "back":
            return self.gap - 1
        return 0

    def put_in(self, word, at):
        self.awaited.insert(at, joins((self.rule, self.gap), at))
        self.things.insert(at, word)
        self.gap = gap_behind_put(self.gap, at)

    def take_out(self, place):
        self.awaited.pop(place)
        self.things.pop(place)
        self.gap = gap_behind_take(self.gap, place)


def check_kinds(kinds):
    if not 1 <= len(kinds) <= MOST_KINDS:
        raise TooMany("no kinds, or more than a book can have")
    words = [kind[0] for kind in kinds]
    for number, kind in enumerate(kinds):
        if not is_name(kind[0]):
            raise NoName(kind[0])
        if kind[0] in words[:number]:
            raise There(kind[0])
        if len(kind[1]) > MOST_PUTS:
            raise TooMany("more puts than an errand can have")
    for kind in kinds:
        check_puts(words, kind[1])


def check_puts(words, puts):
    for put in puts:
        if put[0] not in WHERES:
            raise NoWhere(put[0])
        check_word(words, put[1])


def check_word(words, word):
    if word not in words:
        raise NoName(word)


def check_crowd(book, crowd):
    if len(crowd) > MOST_IN_CROWD:
        raise TooMany("more things than a crowd can begin with")
    for word in crowd:
        check_word(book.words(), word)
