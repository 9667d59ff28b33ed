from itertools import product

from stirround.errands import Errands, ran
from stirround.errors import NoName, NoRule, NoWhere, There, TooMany
from tests.model import RULES, WHERES, RefusalCase, drawn, drawn_book, slow_ran

NO_NAMES = ["", "A", "a1", "a b", "abcdefghi", "-", "a\n"]
NO_WHERES = ["", "Next", "nex", "next ", "ahead", "behind", "a"]
EIGHT = ["a", "b", "c", "d", "e", "f", "g", "h"]


class BookTest(RefusalCase):
    def assert_book_refused(self, error, field, kinds):
        self.assert_refused(error, field, Errands, kinds)
        self.assert_refused(error, field, Errands, tuple((word, tuple(puts), goes) for word, puts, goes in kinds))

    def test_words_puts_goes(self):
        kinds = [("b", [("next", "a"), ("first", "b"), ("next", "a")], True), ("a", [], False)]
        for handed in (kinds, tuple(kinds), [(word, tuple(puts), goes) for word, puts, goes in kinds]):
            book = Errands(handed)
            self.assertEqual(book.words(), ["b", "a"])
            self.assertEqual(book.puts("b"), [("next", "a"), ("first", "b"), ("next", "a")])
            self.assertEqual(book.puts("a"), [])
            self.assertIs(book.goes("b"), True)
            self.assertIs(book.goes("a"), False)
            self.assertEqual([type(told) for told in (book.words(), book.puts("a"), book.puts("b"))], [list] * 3)

    def test_bounds(self):
        puts = [(where, word) for where, word in zip(WHERES + WHERES, "hgfedc")]
        book = Errands([(word, puts, word > "d") for word in EIGHT])
        self.assertEqual(book.words(), EIGHT)
        for word in EIGHT:
            self.assertEqual((book.puts(word), book.goes(word)), (puts, word > "d"))

    def test_no_name_of_puts_and_goes(self):
        book = Errands([("a", [("next", "b")], True), ("b", [], False)])
        for word in ["c", "ab"] + NO_NAMES:
            self.assert_refused(NoName, word, book.puts, word)
            self.assert_refused(NoName, word, book.goes, word)

    def test_too_many_kinds(self):
        self.assert_book_refused(TooMany, None, [])
        for kinds in ([(word, [], True) for word in EIGHT + ["i"]], [("A", [], True)] * 9,
                      [("a", [("no", "A")] * 7, True)] * 10):
            self.assert_book_refused(TooMany, None, kinds)

    def test_no_name(self):
        for word in NO_NAMES:
            self.assert_book_refused(NoName, word, [(word, [], True)])
            self.assert_book_refused(NoName, word, [("a", [], True), (word, [], True), ("B", [], True)])
            self.assert_book_refused(NoName, word, [(word, [("no", "B")] * 7, True), (word, [], True)])
            self.assert_book_refused(NoName, word, [("a", [("no", "B")], True), (word, [], True), ("a", [], True)])
            self.assert_book_refused(NoName, word, [("a", [("next", word)], True), (word, [], True)])

    def test_there(self):
        self.assert_book_refused(There, "a", [("a", [], True), ("a", [], False)])
        self.assert_book_refused(There, "b", [("a", [], True), ("b", [], True), ("b", [], True), ("a", [], True)])
        self.assert_book_refused(There, "a", [("a", [("no", "b")], True), ("a", [("no", "b")] * 7, True),
                                              ("B", [], True)])

    def test_too_many_puts(self):
        for puts in ([("next", "a")] * 7, [("no", "B")] * 8):
            self.assert_book_refused(TooMany, None, [("a", puts, True)])
            self.assert_book_refused(TooMany, None, [("a", [("no", "c")], True), ("b", puts, True), ("B", [], True)])
            self.assert_book_refused(TooMany, None, [("a", puts, True), ("a", [], True)])
        self.assert_book_refused(There, "a", [("a", [], True), ("a", [], True), ("b", [("next", "a")] * 7, True)])

    def test_no_where(self):
        for where in NO_WHERES:
            self.assert_book_refused(NoWhere, where, [("a", [(where, "a")], True)])
            self.assert_book_refused(NoWhere, where, [("a", [(where, "c")], True)])
            self.assert_book_refused(NoWhere, where, [("a", [("next", "a"), (where, "a"), ("next", "c")], True)])
            self.assert_book_refused(NoWhere, where, [("a", [("next", "b")], True), ("b", [(where, "a")], True)])
            self.assert_book_refused(NoWhere, where, [("a", [(where, "c")], True), ("b", [("no", "c")], True)])

    def test_no_name_of_puts(self):
        for word in ["c", "ab"] + NO_NAMES:
            self.assert_book_refused(NoName, word, [("a", [("next", word)], True)])
            self.assert_book_refused(NoName, word, [("a", [("next", "b"), ("last", word), ("no", "a")], True),
                                                    ("b", [], True)])
            self.assert_book_refused(NoName, word, [("a", [], True), ("b", [("back", word), ("back", "q")], True)])
            self.assert_book_refused(NoName, word, [("a", [("next", word)], True), ("b", [("no", "b")], True)])

    def test_two_lookings(self):
        """All words are looked at ahead of all puts."""
        self.assert_book_refused(NoName, "B", [("a", [("no", "c")], True), ("B", [], True)])
        self.assert_book_refused(There, "a", [("a", [("no", "c")], True), ("a", [], True)])
        self.assert_book_refused(TooMany, None, [("a", [("no", "c")], True), ("b", [("next", "a")] * 7, True)])

    def test_lists_changed_behind_it(self):
        puts = [("next", "a"), ("last", "b")]
        kinds = [("a", puts, True), ("b", [], False)]
        book = Errands(kinds)
        puts.append(("back", "a"))
        puts[0] = ("first", "b")
        kinds[1] = ("c", [], True)
        kinds.append(("d", [], True))
        for told in (book.words(), book.puts("a"), book.puts("b")):
            told.append("more")
            told[0] = "other"
        self.assertEqual((book.words(), book.puts("a"), book.puts("b")),
                         (["a", "b"], [("next", "a"), ("last", "b")], []))
        self.assertEqual((book.goes("a"), book.goes("b")), (True, False))
        self.assertEqual(ran(book, ["b"], "all", 9), (["b"], ["b"], 1, True))

    def test_two_books(self):
        one, other = Errands([("a", [], True)]), Errands([("b", [], False)])
        self.assertEqual((one.words(), other.words()), (["a"], ["b"]))


class RanTest(RefusalCase):
    def assert_ran(self, kinds, crowd, rule, most):
        book = Errands(kinds)
        told = ran(book, list(crowd), rule, most)
        self.assertEqual([type(part) for part in (told,) + told], [tuple, list, list, int, bool])
        self.assertEqual(told, slow_ran(kinds, crowd, rule, most), (kinds, crowd, rule, most))
        handed = tuple(crowd)
        self.assertEqual(ran(book, handed, rule, most), told)
        self.assertEqual(handed, tuple(crowd))
        return told

    def test_without_puts(self):
        kinds = [("a", [], False), ("b", [], True)]
        for rule in RULES:
            self.assertEqual(self.assert_ran(kinds, [], rule, 9), ([], [], 0, True))
            self.assertEqual(self.assert_ran(kinds, [], rule, 0), ([], [], 0, True))
            self.assertEqual(self.assert_ran(kinds, ["a", "b", "a"], rule, 9), (["a", "b", "a"], ["a", "a"], 1, True))
            self.assertEqual(self.assert_ran(kinds, ["a", "b", "a"], rule, 3), (["a", "b", "a"], ["a", "a"], 1, True))
            self.assertEqual(self.assert_ran(kinds, ["a", "b", "a"], rule, 2), (["a", "b"], ["a", "a"], 1, False))
            self.assertEqual(self.assert_ran(kinds, ["b", "b"], rule, 0), ([], ["b", "b"], 0, False))

    def test_one_put(self):
        """Of a and d: a puts in a b; by next a b d, by last a d b, by back and first b a d."""
        for rule, where, goes in product(RULES, WHERES, (True, False)):
            kinds = [("a", [(where, "b")], goes), ("b", [], False), ("d", [], False)]
            told = self.assert_ran(kinds, ["a", "d"], rule, 9)
            row = {"next": ["a", "b", "d"], "last": ["a", "d", "b"]}.get(where, ["b", "a", "d"])
            self.assertEqual(told[1], [word for word in row if word != "a" or not goes])
            ahead = where in ("next", "last")
            names = row if ahead and rule != "none" else ["a", "d", "b"] if rule == "all" else ["a", "d"]
            self.assertEqual(told[0], names)
            self.assertEqual(told[2:], (2 if rule == "all" and not ahead else 1, True))

    def test_back_and_first(self):
        kinds = [("a", [("back", "b"), ("back", "c"), ("first", "d"), ("first", "e"), ("back", "f")], False)]
        kinds += [(word, [], False) for word in "bcdefx"]
        told = self.assert_ran(kinds, ["x", "a", "x"], "all", 60)
        self.assertEqual(told[1], list("edxbcfax"))
        self.assertEqual(told[0], list("xaxedbcf"))
        self.assertEqual(told[2:], (2, True))

    def test_next_and_last(self):
        kinds = [("a", [("next", "b"), ("last", "c"), ("next", "d"), ("last", "e"), ("next", "f")], False)]
        kinds += [(word, [], False) for word in "bcdefx"]
        for rule in ("ahead", "all"):
            told = self.assert_ran(kinds, ["x", "a", "x"], rule, 60)
            self.assertEqual(told, (list("xabdfxce"), list("xabdfxce"), 1, True))
        self.assertEqual(self.assert_ran(kinds, ["x", "a", "x"], "none", 60), (list("xax"), list("xabdfxce"), 1, True))

    def test_all_four_in_any_order(self):
        rest = [("b", [], True), ("c", [], False), ("d", [("last", "c")], False), ("e", [("back", "b")], True)]
        for places in product(range(4), repeat=4):
            for goes in (True, False):
                kinds = [("a", [(WHERES[place], word) for place, word in zip(places, "bcde")], goes)] + rest
                for rule in RULES:
                    self.assert_ran(kinds, ["c", "a", "b", "a"], rule, 60)

    def test_stopped_at_any_time(self):
        kinds = [("a", [("next", "b"), ("first", "a"), ("last", "c"), ("back", "c")], True)]
        kinds += [("b", [("back", "c"), ("next", "c")], False), ("c", [], True)]
        for rule in RULES:
            for most in range(40):
                self.assert_ran(kinds, ["a", "b", "a"], rule, most)

    def test_endless_ones_up_to_400(self):
        for where in WHERES:
            kinds = [("a", [(where, "a"), (where, "b")], True), ("b", [], True)]
            for most in (0, 1, 2, 50, 400):
                told = self.assert_ran(kinds, ["a", "b"], "all", most)
                self.assertEqual((len(told[0]), told[3]), (most, False))
        kinds = [("a", [("next", "a")] * 3 + [("back", "a")] * 3, False)]
        told = ran(Errands(kinds), ["a"] * 12, "all", 400)
        self.assertEqual((len(told[0]), len(told[1]), told[2:]), (400, 2412, (1, False)))

    def test_over_just_at_the_last_tell(self):
        kinds = [("a", [("next", "b")], False), ("b", [], False)]
        self.assertEqual(self.assert_ran(kinds, ["a"], "ahead", 1)[3], False)
        self.assertEqual(self.assert_ran(kinds, ["a"], "ahead", 2)[3], True)
        self.assertEqual(self.assert_ran(kinds, ["a"], "none", 1)[3], True)

    def test_drawn_ones(self):
        for seed in range(400):
            draw = drawn(seed)
            kinds = drawn_book(draw, ending=seed % 2 == 0)
            crowd = [draw.choice(kinds)[0] for number in range(draw.choice([0, 1, 2, 3, 5, 12]))]
            self.assert_ran(kinds, crowd, RULES[seed % 3], draw.choice([0, 1, 2, 10, 40]))

    def test_new_each_time(self):
        book = Errands([("a", [("last", "b")], False), ("b", [], True)])
        crowd = ["a", "b"]
        told = ran(book, crowd, "all", 9)
        told[0].append("more")
        told[1].clear()
        self.assertEqual(ran(book, crowd, "all", 9), (["a", "b", "b"], ["a"], 1, True))
        self.assertEqual(crowd, ["a", "b"])
        stopped = ran(book, crowd, "all", 0)
        stopped[1].append("more")
        self.assertEqual(crowd, ["a", "b"])

    def test_refused(self):
        book = Errands([("a", [("last", "b")], False), ("b", [], True)])
        for kind in (list, tuple):
            for most in (0, 5):
                for rule in ("", "None", "any", "all "):
                    for crowd in (["a"], [], ["A"], ["a"] * 13, ["A"] * 13):
                        self.assert_refused(NoRule, rule, ran, book, kind(crowd), rule, most)
                for rule in RULES:
                    for crowd in (["a"] * 13, ["A"] * 13, ["a"] * 12 + ["c"], ["b"] * 20):
                        self.assert_refused(TooMany, None, ran, book, kind(crowd), rule, most)
                    for word in ["c", "ab"] + NO_NAMES:
                        for crowd in ([word], ["a", word, "q"], ["a"] * 11 + [word], [word] * 12):
                            self.assert_refused(NoName, word, ran, book, kind(crowd), rule, most)
                    ran(book, kind(["a"] * 12), rule, most)
