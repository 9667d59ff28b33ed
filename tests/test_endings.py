from collections import deque
from itertools import product

from stirround.endings import ending, ending_judged, nth, reckoned
from stirround.errands import Errands, ran
from stirround.errors import Endless, NoName, NoRule, TooMany
from tests.model import RULES, WHERES, RefusalCase, drawn, drawn_book, slow_ran, steps_of

NO_NAMES = ["", "A", "a1", "a b", "abcdefghi", "-"]
EIGHT = ["a", "b", "c", "d", "e", "f", "g", "h"]
# A kind puts in six of the next one, so that single things were some hundred thousand.
LADDERS = [
    [(word, [(where, behind)] * 6 if behind else [], False) for word, behind in zip(EIGHT, EIGHT[1:] + [""])]
    for where in WHERES
]
MOST_STEPS = 9999
# c is in no ring, and x comes of none of the others.
RINGS = [
    ("a", [("next", "b"), ("next", "c")], True), ("b", [("last", "d"), ("back", "x")], True), ("c", [], True),
    ("d", [("next", "a")], False), ("x", [("first", "x")], True), ("y", [("back", "a"), ("last", "c")], True),
]


def comers(kinds, rule):
    """The comers of each kind, with their wheres."""
    wheres = {"none": (), "ahead": ("next", "last"), "all": WHERES}[rule]
    return {word: [(where, kind) for where, kind in puts if where in wheres] for word, puts, goes in kinds}


def reached(kinds, crowd, rule):
    """All that is in the crowd or comes of it, and so on."""
    found = set(crowd)
    while True:
        more = found | {kind for word in found for where, kind in comers(kinds, rule)[word]}
        if more == found:
            return found
        found = more


def is_endless(kinds, crowd, rule):
    return any(word in reached(kinds, [kind], rule) for word in reached(kinds, crowd, rule)
               for where, kind in comers(kinds, rule)[word])


def slow_counts(kinds, word, rule):
    """One thing of the kind and all that come of it, told one by one; and the round of the last."""
    words = [kind[0] for kind in kinds]
    counts, rounds = [0] * len(kinds), 0
    due = [(word, 1)]
    while due:
        told, turn = due.pop()
        counts[words.index(told)] += 1
        rounds = max(rounds, turn)
        due.extend((kind, turn + (where in ("back", "first"))) for where, kind in comers(kinds, rule)[told])
    return (word, tuple(counts), rounds)


def slow_table(kinds, crowd, rule):
    there = reached(kinds, crowd, rule)
    return [slow_counts(kinds, word, rule) for word, puts, goes in kinds if word in there]


def slow_judged(kinds, crowd, rule, told):
    """Point 25, word by word."""
    endless = is_endless(kinds, crowd, rule)
    if told[0] == "ends":
        return not endless and told[1] == slow_table(kinds, crowd, rule)
    way, ring = told[1:]
    links = {(word, kind) for word, some in comers(kinds, rule).items() for where, kind in some}
    if not way or not ring or way[0] not in crowd or way[-1] != ring[0]:
        return False
    if len(set(way)) < len(way) or len(set(ring)) < len(ring):
        return False
    return set(zip(way, way[1:])) | set(zip(ring, ring[1:] + ring[:1])) <= links


def told_in_order(kinds, crowd):
    """All told kinds by "ahead", from a row of which the told ones fall away."""
    errands = {word: puts for word, puts, goes in kinds}
    row, told = deque(crowd), []
    while row:
        told.append(row.popleft())
        row.extend(kind for where, kind in errands[told[-1]] if where == "last")
        row.extendleft(kind for where, kind in reversed(errands[told[-1]]) if where == "next")
    return told


def drawn_case(seed, ending_one):
    draw = drawn(seed)
    kinds = drawn_book(draw, ending_one)
    crowd = [draw.choice(kinds)[0] for number in range(draw.choice([0, 1, 1, 2, 3, 12]))]
    return draw, kinds, crowd


class EndingsCase(RefusalCase):
    def assert_ending(self, kinds, crowd, rule):
        book = Errands(kinds)
        told = ending(book, list(crowd), rule)
        self.assertIs(type(told), tuple)
        self.assertEqual(told[0], "endless" if is_endless(kinds, crowd, rule) else "ends")
        self.assertEqual([type(part) for part in told[1:]], [list] * (2 if told[0] == "endless" else 1))
        self.assertTrue(slow_judged(kinds, crowd, rule, told), (kinds, crowd, rule, told))
        if told[0] == "ends":
            self.assertEqual({(type(row), len(row), type(row[1])) for row in told[1]} | {(tuple, 3, tuple)},
                             {(tuple, 3, tuple)})
        handed = tuple(crowd)
        self.assertEqual(ending(book, handed, rule), told)
        self.assertEqual(handed, tuple(crowd))
        self.assertIs(ending_judged(book, crowd, rule, told), True)
        return told

    def assert_refusals(self, call, *more):
        """Of the rule and the crowd; the book is endless from a on by all rules but none."""
        book = Errands([("a", [("next", "a")], False), ("b", [], True)])
        for kind in (list, tuple):
            for rule in ("", "None", "any", "all "):
                for crowd in (["a"], [], ["A"], ["a"] * 13, ["A"] * 13):
                    self.assert_refused(NoRule, rule, call, book, kind(crowd), rule, *more)
            for rule in RULES:
                self.assert_crowds_refused(lambda crowd: call(book, crowd, rule, *more), kind)

    def assert_crowds_refused(self, call, kind):
        for crowd in (["a"] * 13, ["A"] * 13, ["b"] * 12 + ["c"], ["b"] * 20):
            self.assert_refused(TooMany, None, call, kind(crowd))
        for word in ["c", "ab"] + NO_NAMES:
            for crowd in ([word], ["a", word, "q"], ["b"] * 11 + [word], [word] * 12, [word, "a"]):
                self.assert_refused(NoName, word, call, kind(crowd))


class EndingTest(EndingsCase):
    def test_empty_crowd(self):
        for kinds in (RINGS, [("a", [("next", "a")], True)], LADDERS[0]):
            for rule in RULES:
                self.assertEqual(self.assert_ending(kinds, [], rule), ("ends", []))

    def test_tables(self):
        kinds = [("c", [], True), ("a", [("next", "b"), ("first", "c"), ("next", "b")], True),
                 ("x", [("next", "a")], True),
                 ("b", [("last", "c"), ("back", "c")], False)]
        self.assertEqual(self.assert_ending(kinds, ["a", "a"], "none"), ("ends", [("a", (0, 1, 0, 0), 1)]))
        self.assertEqual(self.assert_ending(kinds, ["a", "c"], "ahead"),
                         ("ends", [("c", (1, 0, 0, 0), 1), ("a", (2, 1, 0, 2), 1), ("b", (1, 0, 0, 1), 1)]))
        self.assertEqual(self.assert_ending(kinds, ["a"], "all"),
                         ("ends", [("c", (1, 0, 0, 0), 1), ("a", (5, 1, 0, 2), 2), ("b", (2, 0, 0, 1), 2)]))
        self.assertEqual(self.assert_ending(kinds, ["b", "c", "b"], "all"),
                         ("ends", [("c", (1, 0, 0, 0), 1), ("b", (2, 0, 0, 1), 2)]))

    def test_rounds(self):
        for wheres in product(WHERES, repeat=3):
            kinds = [(word, [(where, behind)], True) for word, where,
                     behind in zip("abc", wheres, "bcd")] + [("d", [], True)]
            told = self.assert_ending(kinds, ["a"], "all")
            self.assertEqual(told[1][0][2], 1 + len([where for where in wheres if where in ("back", "first")]))
            self.assertEqual(told[1][3][2], 1)

    def test_greatest_rounds(self):
        kinds = [("a", [("back", "d"), ("next", "b")], True), ("b", [("next", "c"), ("first", "c")], True),
                 ("c", [("back", "d")], True), ("d", [], True)]
        for order in (kinds, kinds[::-1]):
            table = {row[0]: row[2] for row in self.assert_ending(order, ["a"], "all")[1]}
            self.assertEqual(table, {"a": 3, "b": 3, "c": 2, "d": 1})

    def test_endless_ones(self):
        self.assertEqual(self.assert_ending(RINGS, ["a"], "none"), ("ends", [("a", (1, 0, 0, 0, 0, 0), 1)]))
        self.assertEqual(self.assert_ending(RINGS, ["c"], "all"), ("ends", [("c", (0, 0, 1, 0, 0, 0), 1)]))
        for crowd in (["a"], ["c", "b"], ["d", "d"], ["c", "c", "c", "d"]):
            told = self.assert_ending(RINGS, crowd, "ahead")
            self.assertEqual((told[0], sorted(told[2])), ("endless", ["a", "b", "d"]))
            self.assertEqual(self.assert_ending(RINGS, crowd, "all")[0], "endless")
        self.assertEqual(self.assert_ending(RINGS, ["y"], "all")[0], "endless")

    def test_a_ring_that_is_not_reached(self):
        self.assertEqual(self.assert_ending(RINGS, ["y", "c"], "ahead")[0], "ends")
        self.assertEqual(self.assert_ending(RINGS, ["x"], "ahead"), ("ends", [("x", (0, 0, 0, 0, 1, 0), 1)]))
        self.assertEqual(self.assert_ending(RINGS, ["x"], "all"), ("endless", ["x"], ["x"]))

    def test_kinds_that_put_themselves_in(self):
        for where, goes, rule in product(WHERES, (True, False), RULES):
            told = self.assert_ending([("a", [(where, "a")], goes), ("b", [("next", "a")], True)], ["b"], rule)
            if rule == "all" or rule == "ahead" and where in ("next", "last"):
                self.assertEqual(told, ("endless", ["b", "a"], ["a"]))
            else:
                self.assertEqual(told[0], "ends")

    def test_ladders(self):
        for where, kinds in zip(WHERES, LADDERS):
            ahead = where in ("next", "last")
            for rule in RULES:
                kind, table = ending(Errands(kinds), ["a"], rule)
                self.assertEqual(kind, "ends")
                if rule == "none" or rule == "ahead" and not ahead:
                    self.assertEqual(table, [("a", (1,) + (0,) * 7, 1)])
                else:
                    rows = [(word, (0,) * number + tuple(6 ** power for power in range(8 - number)),
                             1 if ahead else 8 - number)
                            for number, word in enumerate(EIGHT)]
                    self.assertEqual(table, rows)

    def test_each_kind_is_reckoned_once(self):
        thick = [(word, [(WHERES[number % 4], behind) for number, behind in enumerate((EIGHT[place + 1:] * 6)[:6])],
                  True)
                 for place, word in enumerate(EIGHT)]
        for kinds in LADDERS + [thick, LADDERS[0][::-1], thick[::-1]]:
            book = Errands(kinds)
            told = ending(book, ["a"] * 12, "all")
            for call in (lambda: ending(book, ["a"] * 12, "all"), lambda: ending_judged(book, ["a"] * 12, "all", told),
                         lambda: reckoned(book, ["a"] * 12, "all"), lambda: nth(book, ["a"] * 12, 9 ** 5),
                         lambda: nth(book, ["a"] * 12, 10 ** 59)):
                self.assertLessEqual(steps_of(call), MOST_STEPS)

    def test_rings_are_found_soon(self):
        for end in EIGHT:
            kinds = [(word, [("next", behind)] * 5 + [("last", behind)], False) for word,
                     behind in zip(EIGHT, EIGHT[1:])]
            kinds.append(("h", [("last", end)], False))
            told = self.assert_ending(kinds, ["a"], "ahead")
            self.assertEqual(told[0], "endless")
            self.assertLessEqual(steps_of(ending, Errands(kinds), ["a"], "ahead"), MOST_STEPS)

    def test_drawn_ones(self):
        endless = 0
        for seed in range(600):
            draw, kinds, crowd = drawn_case(seed, seed % 3 == 0)
            for rule in RULES:
                endless += self.assert_ending(kinds, crowd, rule)[0] == "endless"
        self.assertGreater(endless, 100)

    def test_new_each_time(self):
        for crowd, rule in ((["a"], "none"), (["y"], "all"), ([], "all"), (["x"], "all")):
            book = Errands(RINGS)
            told = ending(book, crowd, rule)
            kept = told[:1] + tuple(list(part) for part in told[1:])
            for part in told[1:]:
                part.append("more")
            self.assertEqual(ending(book, crowd, rule), kept)
        self.assertEqual(book.words(), [kind[0] for kind in RINGS])

    def test_refused(self):
        self.assert_refusals(ending)


class EndingJudgedTest(EndingsCase):
    TABLE = [("a", (1, 2, 0, 5), 2), ("b", (0, 1, 0, 2), 2), ("d", (0, 0, 0, 1), 1)]
    KINDS = [("a", [("next", "b"), ("last", "b"), ("back", "d")], True), ("b", [("first", "d"), ("last", "d")], False),
             ("c", [("next", "a")], True), ("d", [], True)]

    def assert_judged(self, answer, kinds, crowd, rule, told):
        kept = told[:1] + tuple(list(part) for part in told[1:])
        self.assertIs(slow_judged(kinds, crowd, rule, told), answer, told)
        for handed in (list(crowd), tuple(crowd)):
            self.assertIs(ending_judged(Errands(kinds), handed, rule, told), answer, told)
        self.assertEqual(told, kept)

    def test_right_table(self):
        for crowd in (["a"], ["a", "d", "b"], ["b", "a"]):
            self.assert_judged(True, self.KINDS, crowd, "all", ("ends", list(self.TABLE)))
        self.assert_judged(True, self.KINDS, [], "all", ("ends", []))

    def test_rows_of_a_table(self):
        table = self.TABLE
        more = ("c", (1, 2, 1, 5), 2)
        for wrong in ([], table[:2], table[1:], table[::2], table[::-1], table + table[-1:], table[:1] + table,
                      table + [more],
                      table[:2] + [more] + table[2:], [table[1], table[0], table[2]],
                      table[:2] + [("e", (0, 0, 0, 1), 1)],
                      table[:2] + [("", (0, 0, 0, 1), 1)], table[:2] + [("D", (0, 0, 0, 1), 1)]):
            self.assert_judged(False, self.KINDS, ["a"], "all", ("ends", wrong))
        self.assert_judged(False, self.KINDS, ["b"], "all", ("ends", table))
        self.assert_judged(True, self.KINDS, ["b"], "all", ("ends", table[1:]))
        self.assert_judged(False, self.KINDS, ["c"], "all", ("ends", table))
        self.assert_judged(False, self.KINDS, [], "all", ("ends", table))
        for rule in ("none", "ahead"):
            self.assert_judged(False, self.KINDS, ["a"], rule, ("ends", table))

    def test_numbers_of_a_table(self):
        for number, (word, counts, rounds) in enumerate(self.TABLE):
            wrong = [(word, counts, other) for other in (rounds - 1, rounds + 1, 0, -1, 10 ** 59)]
            wrong += [(word, other, rounds) for other in ((), counts[:3], counts[1:], counts + (0,), (0,) + counts)]
            for place, change in product(range(4), (-1, 1, 10 ** 59)):
                wrong.append((word, counts[:place] + (counts[place] + change,) + counts[place + 1:], rounds))
            for row in wrong:
                table = list(self.TABLE)
                table[number] = row
                self.assert_judged(False, self.KINDS, ["a"], "all", ("ends", table))

    def test_a_table_of_an_endless_one(self):
        """Sums alone would let by numbers below 0."""
        for table in ([("a", (-1,), 1)], [("a", (1,), 1)], [("a", (0,), 0)], []):
            self.assert_judged(False, [("a", [("next", "a")] * 2, True)], ["a"], "all", ("ends", table))
        for word in "abdy":
            table = slow_table(RINGS, [word], "none")
            self.assert_judged(False, RINGS, [word], "all", ("ends", table))
            self.assert_judged(True, RINGS, [word], "none", ("ends", table))

    def test_right_ways_and_rings(self):
        for way, ring in ((["a"], ["a", "b", "d"]), (["a", "b"], ["b", "d", "a"]), (["a", "b", "d"], ["d", "a", "b"])):
            for rule in ("ahead", "all"):
                self.assert_judged(True, RINGS, ["c", "a"], rule, ("endless", way, ring))
            self.assert_judged(False, RINGS, ["c", "a"], "none", ("endless", way, ring))
            self.assert_judged(True, RINGS, ["y"], "all", ("endless", ["y"] + way, ring))
            self.assert_judged(False, RINGS, ["y"], "ahead", ("endless", ["y"] + way, ring))
        self.assert_judged(True, RINGS, ["a"], "all", ("endless", ["a", "b", "x"], ["x"]))
        self.assert_judged(False, RINGS, ["a"], "ahead", ("endless", ["a", "b", "x"], ["x"]))

    def test_wrong_ways(self):
        ring = ["a", "b", "d"]
        for way in ([], ["c"], ["y"], ["x"], ["b"], ["d"], ["a", "a"], ["a", "b"], ["a", "d"], ["d", "a"],
                    ["y", "b", "d", "a"],
                    ["y", "c"], ["a", "b", "d", "a"], ["y", "a", "b", "d", "a"], ["e"], [""], ["y", "e", "a"],
                    ["y", "", "a"],
                    ["e", "a"], ["a", "e"], ["y", "a", "a"], ["y", "y", "a"], ["c", "a"], ["a", "y"]):
            self.assert_judged(False, RINGS, ["y", "c"], "all", ("endless", way, ring))
        self.assert_judged(True, RINGS, ["y", "c"], "all", ("endless", ["y", "a"], ring))

    def test_wrong_rings(self):
        for ring in ([], ["a"], ["a", "b"], ["a", "d"], ["a", "d", "b"], ["a", "b", "d", "a"],
                     ["a", "b", "d", "a", "b", "d"],
                     ["b", "d", "a"], ["a", "c"], ["a", "a"], ["a", "b", "x"], ["a", "e"], ["e"], [""], ["a", ""],
                     ["x"],
                     ["a", "b", "b", "d"], ["a", "b", "d", "c"], ["a", "b", "e", "d"]):
            self.assert_judged(False, RINGS, ["a"], "all", ("endless", ["a"], ring))
        self.assert_judged(False, RINGS, ["c"], "all", ("endless", ["c"], ["c"]))
        self.assert_judged(False, RINGS, [], "all", ("endless", [], []))
        self.assert_judged(False, RINGS, ["c"], "all", ("endless", [], []))
        self.assert_judged(False, RINGS, [], "all", ("endless", ["a"], ["a", "b", "d"]))

    def test_the_other_form(self):
        for crowd in ([], ["a"], ["c"]):
            self.assert_judged(False, self.KINDS, crowd, "all", ("endless", crowd, crowd))
            self.assert_judged(False, self.KINDS, crowd, "all", ("endless", ["a", "b"], ["b", "d"]))
        self.assert_judged(False, RINGS, ["a"], "all", ("ends", []))

    def test_drawn_ones(self):
        answers = {"ends": [0, 0], "endless": [0, 0]}
        for seed in range(3000):
            draw, kinds, crowd = drawn_case(seed, seed % 2 == 0)
            rule = draw.choice(RULES)
            words = [kind[0] for kind in kinds]
            told = ending(Errands(kinds), crowd, rule)
            if told[0] == "endless":
                told = ("endless", draw.choice([told[1], draw.sample(words, draw.randint(0, len(words)))]),
                        draw.choice([told[2], draw.sample(words, draw.randint(0, len(words)))]))
            elif draw.random() < 0.5 and told[1]:
                number = draw.randrange(len(told[1]))
                word, counts, rounds = told[1][number]
                told[1][number] = (word, tuple(draw.choice([0, 0, 0, 1]) + count for count in counts), rounds)
            answer = slow_judged(kinds, crowd, rule, told)
            self.assertIs(ending_judged(Errands(kinds), crowd, rule, told), answer)
            answers[told[0]][answer] += 1
        self.assertGreater(min(answers["ends"] + answers["endless"]), 50)

    def test_refused(self):
        for told in (("ends", []), ("endless", ["a"], ["a"]), ("endless", ["q"], ["q"])):
            self.assert_refusals(ending_judged, told)


class ReckonedTest(EndingsCase):
    def assert_reckoned(self, kinds, crowd, rule, run):
        told = reckoned(Errands(kinds), list(crowd), rule)
        self.assertEqual([type(part) for part in (told,) + told], [tuple, tuple, int, tuple])
        words = [kind[0] for kind in kinds]
        names, standing, rounds, over = run
        self.assertIs(over, True)
        self.assertEqual(told[0], tuple(names.count(word) for word in words))
        self.assertEqual(told[1], rounds)
        self.assertEqual(told[2], tuple(standing.count(word) for word in words))
        self.assertEqual(reckoned(Errands(kinds), tuple(crowd), rule), told)
        return told

    def test_empty_crowd(self):
        for rule in RULES:
            self.assertEqual(reckoned(Errands(RINGS), [], rule), ((0,) * 6, 0, (0,) * 6))
            self.assertEqual(reckoned(Errands([("a", [], True)]), (), rule), ((0,), 0, (0,)))

    def test_ordinary(self):
        kinds = EndingJudgedTest.KINDS
        self.assertEqual(self.assert_reckoned(kinds, ["a", "b", "a"], "all",
                                              slow_ran(kinds, ["a", "b", "a"], "all", 400)),
                         ((2, 5, 0, 12), 2, (0, 5, 0, 0)))
        self.assertEqual(self.assert_reckoned(kinds, ["a", "b"], "none", slow_ran(kinds, ["a", "b"], "none", 400)),
                         ((1, 1, 0, 0), 1, (0, 3, 0, 3)))

    def test_against_runs(self):
        ended = 0
        for seed in range(500):
            draw, kinds, crowd = drawn_case(seed, seed % 4 != 0)
            for rule in RULES:
                if is_endless(kinds, crowd, rule):
                    self.assert_refused(Endless, None, reckoned, Errands(kinds), crowd, rule)
                    continue
                run = ran(Errands(kinds), crowd, rule, 400)
                if run[3]:
                    self.assert_reckoned(kinds, crowd, rule, run)
                    ended += 1
        self.assertGreater(ended, 500)

    def test_ladders(self):
        powers = tuple(6 ** number for number in range(8))
        for where, kinds in zip(WHERES, LADDERS):
            gone = [(word, puts, True) for word, puts, goes in kinds]
            twelve = tuple(12 * power for power in powers)
            rounds = 1 if where in ("next", "last") else 8
            self.assertEqual(reckoned(Errands(kinds), ["a"] * 12, "all"), (twelve, rounds, twelve))
            self.assertEqual(reckoned(Errands(gone), ["a"] * 12, "all"), (twelve, rounds, (0,) * 8))
            self.assertEqual(reckoned(Errands(gone), ["a"] * 12, "none"), ((12,) + (0,) * 7, 1, (0, 72) + (0,) * 6))

    def test_endless(self):
        for crowd in (["a"], ["c", "b"], ["c"] * 11 + ["d"]):
            for rule in ("ahead", "all"):
                self.assert_refused(Endless, None, reckoned, Errands(RINGS), crowd, rule)
        self.assert_refused(Endless, None, reckoned, Errands(RINGS), ["y"], "all")
        self.assertEqual(reckoned(Errands(RINGS), ["y"], "ahead"), ((0, 0, 1, 0, 0, 1), 1, (1, 0, 0, 0, 0, 0)))

    def test_refused(self):
        self.assert_refusals(reckoned)


class NthTest(EndingsCase):
    def assert_nth(self, kinds, crowd, told):
        book = Errands(kinds)
        for kind in (list, tuple):
            handed = kind(crowd)
            self.assertEqual([nth(book, handed, n) for n in range(len(told))], told)
            for n in (len(told), len(told) + 1, len(told) + 400, 10 ** 59, 10 ** 60 - 1):
                self.assertIsNone(nth(book, handed, n))
            self.assertEqual(handed, kind(crowd))

    def test_empty_crowd(self):
        self.assert_nth(RINGS, [], [])

    def test_ordinary(self):
        kinds = [("a", [("last", "b"), ("next", "c"), ("back", "a"), ("last", "d")], True),
                 ("b", [("next", "d")], True),
                 ("c", [("last", "b"), ("next", "d")], False), ("d", [], True)]
        for crowd in (["a"], ["a", "a"], ["c", "a", "b"], ["a", "b", "c", "d"] * 3):
            told = slow_ran(kinds, crowd, "ahead", 400)[0]
            self.assertEqual(told_in_order(kinds, crowd), told)
            self.assert_nth(kinds, crowd, told)
        self.assert_nth(kinds, ["a"], ["a", "c", "d", "b", "d", "d", "b", "d"])

    def test_own_lasts_stand_ahead_of_those_of_nexts(self):
        for puts in ([("next", "b"), ("last", "c")], [("last", "c"), ("next", "b")]):
            kinds = [("a", puts, True), ("b", [("last", "d")], True), ("c", [("last", "d")], True), ("d", [], True)]
            self.assert_nth(kinds, ["a"], ["a", "b", "c", "d", "d"])
            self.assert_nth(kinds, ["a", "b"], ["a", "b", "b", "c", "d", "d", "d"])

    def test_against_runs(self):
        ended = 0
        for seed in range(500):
            draw, kinds, crowd = drawn_case(seed, seed % 4 != 0)
            if is_endless(kinds, crowd, "ahead"):
                self.assert_refused(Endless, None, nth, Errands(kinds), crowd, draw.choice([0, 1, 10 ** 59]))
                continue
            run = ran(Errands(kinds), crowd, "ahead", 400)
            if run[3]:
                self.assert_nth(kinds, crowd, run[0])
                ended += 1
        self.assertGreater(ended, 200)

    def test_ladders(self):
        mixed = [(word, puts[:3] + [("last", puts[0][1])] * 2 + puts[:1] if puts else [], False) for word, puts,
                 goes in LADDERS[0]]
        for kinds in (LADDERS[0], LADDERS[1], mixed):
            told = told_in_order(kinds, ["a", "b"])
            book = Errands(kinds)
            self.assertGreater(len(told), 300000)
            for n in list(range(300)) + list(range(300, len(told), 997)) + [len(told) - 2, len(told) - 1]:
                self.assertEqual(nth(book, ["a", "b"], n), told[n])
            for n in (len(told), 10 ** 59):
                self.assertIsNone(nth(book, ["a", "b"], n))
        for kinds in LADDERS[2:]:
            self.assert_nth(kinds, ["a", "b"], ["a", "b"])

    def test_endless(self):
        for crowd in (["a"], ["c", "b"], ["c"] * 11 + ["d"]):
            for n in (0, 1, 10 ** 59):
                self.assert_refused(Endless, None, nth, Errands(RINGS), crowd, n)
        self.assertEqual([nth(Errands(RINGS), ["x", "y"], n) for n in range(4)], ["x", "y", "c", None])

    def test_refused(self):
        book = Errands([("a", [("next", "a")], False), ("b", [], True)])
        for n in (0, 5, 10 ** 59):
            for kind in (list, tuple):
                self.assert_crowds_refused(lambda crowd: nth(book, crowd, n), kind)
