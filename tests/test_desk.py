from itertools import combinations, product

from stirround.brands import brands
from stirround.desk import Desk
from stirround.errors import (
    Full, Gone, NoName, NoPlace, NoRow, NoRule, NoText, NoTicket, Stale, StirError, There, TooMany,
)
from stirround.lines import lines_of
from stirround.loops import rest
from stirround.texts import deed_text, read_ticket, row_text, ticket_text
from stirround.twins import parted
from stirround.yards import Yard
from tests.model import FORTY, NAMES, RULES, RefusalCase, all_deeds, drawn, drawn_deed, refusal_of

NO_NUMBERS = ["00", "01", "-1", "+1", "a", "1a", "1.", "1" * 61, "0" * 60, "-", "-0", "1_0", "1\n", "1x"]
NO_NAMES = ["A", "a1", "abcdefghi", "-", "0", "a\n"]
TWELVE = ["l" + letter for letter in "abcdefghijkl"]


def told(*rows):
    """A new desk that was told these rows."""
    desk = Desk()
    for row in rows:
        desk.say(row)
    return desk


def snapshot(desk):
    """All that the desk tells of itself."""
    answers = [desk.say(row) for row in ("show", "loops", "brands", "lines")] + [desk.say(f"ticket {rule}")
                                                                                 for rule in RULES]
    for name in desk.say("loops").replace("-", "").split():
        answers += [desk.say(f"{word} {name}") for word in ("rest", "marks")]
    return answers


class DeskCase(RefusalCase):
    def assert_said(self, talk):
        """A talk with a new desk: rows, and behind each a > and its answer."""
        desk = Desk()
        for turn in talk.strip().split("\n"):
            row, answer = turn.strip().split(" > ")
            self.assertEqual(desk.say(row), answer, turn)

    def assert_desk_refused(self, desk, error, field, row):
        kept = snapshot(desk)
        self.assert_refused(error, field, desk.say, row)
        self.assertEqual(snapshot(desk), kept)

    def some_desk(self):
        return told("row a b c", "begin l all", "begin m none", "step l", "put d 3")


class AnswersTest(DeskCase):
    def test_on_the_empty_row(self):
        self.assert_said("""
            show > -
            loops > -
            brands > 0
            lines > 0
            turn 0 0 > ok
            begin l all > ok
            step l > -
            rest l > -
            marks l > 0
            brands > 0
            lines > 1
            twins l l > yes
            drop l > ok
            ticket none > 1 none 0 0
            page 60 0 all 0 0 > - ; 1 all 0 0
            forget 0 > ok
            row > ok
            show > -
        """)

    def test_deeds(self):
        self.assert_said("""
            put a 0 > ok
            put c 1 > ok
            put b 1 > ok
            show > a b c
            take a > ok
            show > b c
            move c 0 > ok
            show > c b
            turn 0 2 > ok
            show > b c
        """)

    def test_rows(self):
        self.assert_said("""
            row a b c > ok
            show > a b c
            row > ok
            show > -
            row z > ok
            show > z
            row row put a > ok
            show > row put a
        """)
        forty = " ".join(FORTY)
        self.assert_said(f"row {forty} > ok\nshow > {forty}")

    def test_a_new_row_has_no_loops(self):
        desk = told("row a b c", "begin l all", "take a", "forget 1", "row b a")
        answers = [desk.say(row) for row in ("loops", "ticket all", "page 9 0 none 0 0")]
        self.assertEqual(answers, ["-", "0 all 0 0", "b a ; 0 none 2 2"])
        self.assert_desk_refused(desk, Gone, "l", "step l")
        self.assert_desk_refused(desk, NoTicket, None, "page 1 1 all 0 0")
        self.assertEqual([desk.say("begin l none"), desk.say("rest l")], ["ok", "b a"])

    def test_loops(self):
        self.assert_said("""
            row a b > ok
            begin l ahead > ok
            begin ab all > ok
            begin a none > ok
            loops > a ab l
            step l > a
            put x 2 > ok
            step l > b
            rest l > x
            rest ab > a b x
            step l > x
            step l > -
            step l > -
            rest l > -
            rest a > a b
            drop l > ok
            loops > a ab
            drop a > ok
            drop ab > ok
            loops > -
        """)

    def test_marks(self):
        self.assert_said("""
            row a b c d > ok
            begin l none > ok
            marks l > 0
            turn 0 4 > ok
            step l > d
            step l > c
            marks l > 0
            turn 0 4 > ok
            marks l > 2
            step l > a
            marks l > 1
            step l > b
            marks l > 0
        """)

    def test_brands_and_lines(self):
        self.assert_said("""
            row a b c > ok
            brands > 1
            lines > 0
            begin l all > ok
            brands > 1
            lines > 1
            step l > a
            brands > 2
            begin m all > ok
            lines > 1
            turn 0 3 > ok
            step m > c
            brands > 3
            lines > 2
            step m > b
            brands > 2
            lines > 2
            drop l > ok
            brands > 2
            lines > 1
        """)

    def test_twins(self):
        self.assert_said("""
            row a b > ok
            begin l none > ok
            begin m none > ok
            begin n all > ok
            begin o all > ok
            twins l m > yes
            twins l l > yes
            twins n o > yes
            twins l n > no
            step l > a
            twins l m > no
            step m > a
            twins l m > yes
            step n > a
            step o > a
            twins n o > yes
            turn 0 2 > ok
            twins n o > yes
            step n > b
            twins n n > yes
        """)

    def test_twins_of_rows_of_any_length(self):
        for many in (36, 37, 38, 39, 40):
            desk = told("row " + " ".join(FORTY[:many]), "begin l none", "begin m none", "begin n all")
            self.assertEqual([desk.say(f"twins {pair}") for pair in ("l m", "m n", "n n")], ["yes", "no", "yes"])
            desk.say("step l")
            self.assertEqual([desk.say(f"twins {pair}") for pair in ("l m", "m l", "l l")], ["no", "no", "yes"])

    def test_none_with_one_to_come_are_twins(self):
        self.assert_said("""
            row a b > ok
            begin l none > ok
            begin m none > ok
            step l > a
            step m > a
            turn 0 2 > ok
            begin n none > ok
            twins l m > yes
            step l > b
            take b > ok
            twins l m > yes
            twins m n > no
            step n > a
            twins n m > yes
        """)

    def test_tickets_and_pages(self):
        self.assert_said("""
            row a b c > ok
            ticket all > 0 all 0 0
            put x 0 > ok
            page 2 0 all 0 0 > x a ; 1 all 2 2
            page 0 0 all 0 0 > - ; 1 all 0 0
            page 60 0 none 1 3 b > b ; 1 none 3 4
            page 1 1 ahead 4 4 > - ; 1 ahead 4 4
        """)

    def test_forget(self):
        self.assert_said("""
            row a > ok
            take a > ok
            put a 0 > ok
            forget 1 > ok
            page 1 1 all 0 0 > a ; 2 all 1 1
            forget 0 > ok
            forget 2 > ok
            page 1 2 all 0 0 > a ; 2 all 1 1
        """)
        desk = told("row a", "take a", "put a 0", "forget 2")
        for number in (0, 1):
            self.assert_desk_refused(desk, Stale, number, f"page 1 {number} all 0 0")

    def test_two_desks(self):
        one, other = Desk(), Desk()
        one.say("row a b")
        one.say("begin l all")
        self.assertEqual(snapshot(other), snapshot(Desk()))


class NoRowTest(DeskCase):
    def assert_no_row(self, row):
        self.assert_desk_refused(Desk(), NoRow, None, row)
        self.assert_desk_refused(self.some_desk(), NoRow, None, row)

    def test_another_first_word(self):
        for row in ("", "-", "a", "Row a", "rows", "PUT a 0", "puts a 0", "tell l a", "over l", "shown", "sho",
                    "step_of l", "loop l", "ok", "quit",
                    "show\n", "pag 1 0 all 0 0", "judge", "0", "ticket_of l", "count", "page\n1 0 all 0 0", "row\na"):
            self.assert_no_row(row)

    def test_too_many_or_too_few_words(self):
        forms = ["put x 0", "take a", "move a 0", "turn 0 0", "show", "begin n all", "step l", "drop l", "rest l",
                 "loops", "marks l", "brands",
                 "lines", "twins l m", "ticket all", "forget 0"]
        for form in forms:
            self.assertIsInstance(self.some_desk().say(form), str)
            self.assert_no_row(form + " a")
            self.assert_no_row(form + " 0")
            self.assert_no_row(form + " a b")
            words = form.split(" ")
            for many in range(1, len(words)):
                self.assert_no_row(" ".join(words[:many]))

    def test_empty_words(self):
        for row in (" ", "  ", " show", "show ", "  show", "row ", "row  a", "row a ", "row a  b", " row a",
                    "put  a 0", "put a  0", "put a 0 ", "put  0",
                    "put a ", "take ", "take  ", "step ", "drop ", "rest ", "marks ", "begin l ", "begin  all",
                    "twins l ", "twins  l", "ticket ", "forget ",
                    "page  0 all 0 0", "page 1  0 all 0 0", "page 1 0 all 0 0 ", "page 1 0  all 0 0",
                    "page 1 0 all 0 0  a", "page 1 ", "page  1",
                    "loops ", "brands ", "lines ", "turn  0", "turn 0 ", "forget  0"):
            self.assert_no_row(row)

    def test_no_numbers(self):
        for number in NO_NUMBERS:
            for row in (f"put x {number}", f"put A {number}", f"move a {number}", f"move q {number}",
                        f"turn {number} 1", f"turn 0 {number}",
                        f"turn 99 {number}", f"forget {number}", f"page {number} 0 all 0 0",
                        f"page {number} no ticket"):
                self.assert_no_row(row)

    def test_pages(self):
        for many in (61, 62, 100, 10 ** 59, 10 ** 60 - 1):
            self.assert_no_row(f"page {many} 0 all 0 0")
            self.assert_no_row(f"page {many} no ticket")
        for row in ("page", "page 1", "page 60", "page a", "page 61"):
            self.assert_no_row(row)
        self.assertEqual(told("row a b").say("page 60 0 all 0 0"), "a b ; 0 all 2 2")

    def test_ahead_of_all_else(self):
        for row in ("put A 0 0", "take q q", "step q q", "twins q", "begin A any any", "ticket any any", "page 99 no",
                    "forget 9 9", "put a -1", "begin l"):
            self.assert_no_row(row)


class RefusedTest(DeskCase):
    def test_names_and_rules_are_looked_at_behind(self):
        desk = self.some_desk()
        for name in NO_NAMES:
            self.assert_desk_refused(desk, NoName, name, f"put {name} 99")
            self.assert_desk_refused(desk, Gone, name, f"take {name}")
            self.assert_desk_refused(desk, Gone, name, f"move {name} 99")
            self.assert_desk_refused(desk, NoName, name, f"begin {name} any")
            for word in ("step", "drop", "rest", "marks"):
                self.assert_desk_refused(desk, Gone, name, f"{word} {name}")
            self.assert_desk_refused(desk, NoName, name, f"row a {name} a")
            self.assert_desk_refused(desk, NoRule, name, f"ticket {name}")
            self.assert_desk_refused(desk, NoRule, name, f"begin n {name}")

    def test_deeds(self):
        row = ["a", "b", "c", "d"]
        refused = 0
        for deed in all_deeds(row, ["a", "d", "q", "Q"], 2):
            refusal = refusal_of(row, deed)
            if refusal is not None and min(part for part in deed[1:] + (0,) if isinstance(part, int)) >= 0:
                self.assert_desk_refused(self.some_desk(), refusal[0], refusal[1], deed_text(deed))
                refused += 1
        self.assertGreater(refused, 30)
        for at in (10 ** 59, 10 ** 60 - 1):
            self.assert_desk_refused(self.some_desk(), NoPlace, at, f"put q {at}")
            self.assert_desk_refused(self.some_desk(), NoPlace, at, f"turn {at} 0")
        full = told("row " + " ".join(FORTY))
        self.assert_desk_refused(full, Full, None, "put q 0")
        self.assert_desk_refused(full, NoPlace, 41, "put q 41")

    def test_rows(self):
        for desk in (Desk(), self.some_desk()):
            self.assert_desk_refused(desk, NoName, "B", "row a a B c D")
            self.assert_desk_refused(desk, There, "b", "row a b b a")
            self.assert_desk_refused(desk, Full, None, "row a " + " ".join(FORTY))
            self.assert_desk_refused(desk, There, "a", "row a a " + " ".join(FORTY))

    def test_loops(self):
        desk = self.some_desk()
        for word, name in product(("step", "drop", "rest", "marks"), ("q", "a", "all")):
            self.assert_desk_refused(desk, Gone, name, f"{word} {name}")
        self.assert_desk_refused(desk, There, "l", "begin l any")
        self.assert_desk_refused(desk, NoRule, "any", "begin n any")
        for name in TWELVE[:10]:
            desk.say(f"begin {name} all")
        self.assert_desk_refused(desk, TooMany, None, "begin n all")
        self.assert_desk_refused(desk, NoRule, "any", "begin n any")

    def test_twins(self):
        desk = self.some_desk()
        self.assert_desk_refused(desk, Gone, "q", "twins q r")
        self.assert_desk_refused(desk, Gone, "r", "twins r q")
        self.assert_desk_refused(desk, Gone, "q", "twins l q")
        self.assert_desk_refused(desk, Gone, "q", "twins q l")
        self.assert_desk_refused(desk, Gone, "Q", "twins Q q")
        self.assert_desk_refused(desk, Gone, "q", "twins q q")

    def test_pages(self):
        desk = self.some_desk()
        for ticket in ("no", "0", "0 all", "0 all 0", "0 any 0 0", "9 any 0 0", "0 all 0 0 b a", "0 all 0 0 a a",
                       "0 all 0 0 A", "-1 all 0 0",
                       "00 all 0 0", "0 all 0 0 ;", "0 all 0 0\n", "all 0 0 0", "0 all 99 99 b a"):
            self.assert_desk_refused(desk, NoText, 0, f"page 1 {ticket}")
        for ticket in ("2 all 0 0", "9 all 0 0", "0 all 4 0", "0 all 0 4", "0 all 0 0 q", "1 all 5 0", "0 all 0 0 d",
                       f"{10 ** 59} all 0 0"):
            self.assert_desk_refused(desk, NoTicket, None, f"page 1 {ticket}")
        desk.say("forget 1")
        self.assert_desk_refused(desk, Stale, 0, "page 1 0 all 99 99 q")
        self.assert_desk_refused(desk, NoTicket, None, "page 1 2 all 0 0")
        self.assert_desk_refused(desk, NoText, 0, "page 1 0 any 99 99 q")

    def test_forget(self):
        desk = self.some_desk()
        for number in (2, 3, 10 ** 59):
            self.assert_desk_refused(desk, NoPlace, number, f"forget {number}")


class AsTheYardTest(DeskCase):
    """A desk beside a yard that is asked by its methods."""

    def assert_alike(self, desk, yard):
        row = yard.row()
        loops = [yard.loop(name) for name in yard.loops()]
        self.assertEqual(desk.say("show"), " ".join(row) or "-")
        self.assertEqual(desk.say("loops"), " ".join(yard.loops()) or "-")
        self.assertEqual(desk.say("brands"), str(len(set(brands(row, loops)[0]))))
        self.assertEqual(desk.say("lines"), str(len(lines_of(row, loops)[0])))
        for name in yard.loops():
            self.assertEqual(desk.say(f"rest {name}"), " ".join(rest(row, yard.loop(name))) or "-")
            self.assertEqual(desk.say(f"marks {name}"), str(len(yard.ticket_of(name)[3][1])))
        for one, other in combinations(yard.loops(), 2):
            twins = parted(row, yard.loop(one), yard.loop(other)) is None if len(row) < 38 else None
            self.assertIn((desk.say(f"twins {one} {other}"), twins),
                          [("yes", True), ("no", False), ("yes", None), ("no", None)])

    def asked(self, draw, yard):
        """A drawn row of words, and what the yard answers to the same."""
        name, rule = draw.choice(["a", "l", "m", "n"]), draw.choice(RULES)
        kind = draw.choice(["begin", "step", "step", "drop", "ticket", "page", "forget", "deed", "deed", "deed"])
        if kind == "begin":
            return f"begin {name} {rule}", lambda: yard.begin(name, rule) or "ok"
        if kind == "step":
            return f"step {name}", lambda: yard.step(name) or "-"
        if kind == "drop":
            return f"drop {name}", lambda: yard.drop(name) or "ok"
        if kind == "ticket":
            return f"ticket {rule}", lambda: ticket_text(yard.ticket(rule))
        if kind == "forget":
            number = draw.randint(0, yard.count() // 2 + 1)
            return f"forget {number}", lambda: yard.forget(number) or "ok"
        if kind == "page":
            ticket = (draw.randint(0, yard.count() + 1), rule, draw.randint(0, 4), (draw.randint(0, 4), ()))
            return f"page 2 {ticket_text(ticket)}", lambda: self.page_text(*yard.page(ticket, 2))
        deed = drawn_deed(draw, yard.row())
        return deed_text(deed), lambda: yard.act(deed) or "ok"

    def page_text(self, things, ticket):
        return (" ".join(things) or "-") + " ; " + ticket_text(ticket)

    def answer_of(self, call):
        try:
            return call()
        except StirError as refusal:
            return type(refusal), vars(refusal)

    def test_drawn_ones(self):
        refusals = set()
        for seed in range(120):
            draw = drawn(seed)
            row = draw.sample(NAMES, draw.randint(0, 7))
            desk, yard = Desk(), Yard(row)
            self.assertEqual(desk.say(" ".join(["row"] + row)), "ok")
            for turn in range(30):
                words, call = self.asked(draw, yard)
                answer = self.answer_of(call)
                self.assertEqual(self.answer_of(lambda: desk.say(words)), answer, words)
                refusals |= set(answer[:1] if isinstance(answer, tuple) else [])
                self.assert_alike(desk, yard)
        self.assertEqual(refusals, {Gone, There, NoPlace, NoTicket, Stale})

    def test_on_forty_things(self):
        desk, yard = Desk(), Yard(FORTY)
        desk.say("row " + row_text(FORTY))
        for number, name in enumerate(TWELVE):
            yard.begin(name, RULES[number % 3])
            desk.say(f"begin {name} {RULES[number % 3]}")
            for turn in range(3 * number):
                self.assertEqual(desk.say(f"step {name}"), yard.step(name))
            yard.act(("turn", number, 40 - number))
            desk.say(f"turn {number} {40 - number}")
        self.assert_alike(desk, yard)

    def test_page_by_page(self):
        for seed in range(40):
            draw = drawn(seed)
            row = draw.sample(NAMES, draw.randint(1, 8))
            desk = told(" ".join(["row"] + row))
            rule = draw.choice(RULES)
            ticket = desk.say(f"ticket {rule}")
            desk.say(f"begin l {rule}")
            for turn in range(20):
                if draw.random() < 0.5:
                    row = desk.say("show").replace("-", "").split()
                    desk.say(deed_text(drawn_deed(draw, row)))
                else:
                    many = draw.randint(0, 3)
                    names, ticket = desk.say(f"page {many} {ticket}").split(" ; ")
                    steps = [desk.say("step l") for number in range(many)]
                    self.assertEqual(names, " ".join(name for name in steps if name != "-") or "-")
                    self.assertEqual(len(read_ticket(ticket)[3][1]), int(desk.say("marks l")))
