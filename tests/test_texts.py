from stirround.deeds import done
from stirround.errors import NoText
from stirround.logs import first_wrong
from stirround.texts import deed_text, log_text, read_log, read_ticket, row_text, ticket_text
from tests.model import FORTY, NAMES, RULES, RefusalCase, drawn, drawn_log

LONGEST = 10 ** 60 - 1
NO_NAMES = ["A", "a1", "abcdefghi", "-", "1", "a.", "a-b", "aB"]
NO_NUMBERS = ["00", "01", "007", "-1", "+1", "1.", "1a", "a", "0x1", "1e3", "-0", "1_0", "10000000000000000000a",
              "1" * 61, "0" * 60, "9" * 61, "0" + "1" * 59, "1x", "1:"]
NO_RULES = ["None", "ALL", "any", "ahea", "alll", "-"]
NUMBERS = [0, 1, 9, 10, 40, 100, 909, 10 ** 59, LONGEST]
# Each form of an entry, and how it is written.
ENTRIES = [
    (("put", "a", 0), "put a 0"), (("put", "abcdefgh", LONGEST), "put abcdefgh " + "9" * 60), (("take", "b"), "take b"),
    (("move", "c", 12), "move c 12"), (("turn", 0, 40), "turn 0 40"), (("turn", 7, 3), "turn 7 3"),
    (("over", "l"), "over l"),
    (("begin", "l", "none"), "begin l none"), (("begin", "take", "ahead"), "begin take ahead"),
    (("begin", "z", "all"), "begin z all"),
    (("tell", "l", "x"), "tell l x"), (("tell", "over", "none"), "tell over none"), (("take", "take"), "take take"),
]


def wrong_lines():
    """Lines that are no entry of a log."""
    found = ["", " ", "-", "a", "a b", "show", "step l", "Put a 0", "puts a 0", "pu a 0", "PUT a 0", "put", "take",
             "move", "turn", "begin", "tell",
             "over", "put a", "move a", "turn 0", "begin l", "tell l", "put 0 a", "put a 0 0", "take a b", "take a 0",
             "move a 0 0", "turn 0 0 0",
             "begin l all all", "tell l a b", "over l l", "take ", "over ", "put a ", "begin l ", "turn  0",
             "begin all l", "take 0", "turn a b",
             "turn 0 a", "turn a 0", "put  0", "put a-0", "put\ta 0", "put,a,0"]
    for name in NO_NAMES:
        found += [f"put {name} 0", f"take {name}", f"move {name} 0", f"begin {name} all", f"tell {name} a",
                  f"tell l {name}", f"over {name}"]
    for number in NO_NUMBERS:
        found += [f"put a {number}", f"move a {number}", f"turn {number} 3", f"turn 0 {number}"]
    for rule in NO_RULES:
        found.append(f"begin l {rule}")
    for entry, text in ENTRIES:
        found += [" " + text, text + " ", text.replace(" ", "  ", 1), text + " a", text + " 0",
                  "  ".join(text.rsplit(" ", 1)), text.upper()]
    return found


class WrittenTest(RefusalCase):
    def test_rows(self):
        for kind in (list, tuple):
            self.assertEqual(row_text(kind([])), "-")
            self.assertEqual(row_text(kind(["a"])), "a")
            self.assertEqual(row_text(kind(["b", "a", "abcdefgh"])), "b a abcdefgh")
            self.assertEqual(row_text(kind(FORTY)), " ".join(FORTY))

    def test_deeds(self):
        self.assertEqual(deed_text(("put", "a", 0)), "put a 0")
        self.assertEqual(deed_text(("take", "abc")), "take abc")
        self.assertEqual(deed_text(("move", "b", 39)), "move b 39")
        self.assertEqual(deed_text(("turn", 2, 40)), "turn 2 40")
        for number in NUMBERS:
            self.assertEqual(deed_text(("put", "a", number)), "put a " + format(number, "d"))
            self.assertEqual(deed_text(("turn", number, number)), f"turn {number} {number}")

    def test_logs(self):
        log = [entry for entry, text in ENTRIES]
        texts = [text for entry, text in ENTRIES]
        for kind in (list, tuple):
            self.assertEqual(log_text(kind([]), []), "-")
            self.assertEqual(log_text(kind(["a", "b"]), []), "a b")
            self.assertEqual(log_text(kind([]), log), "\n".join(["-"] + texts))
            self.assertEqual(log_text(kind(["a", "b"]), log[:2]), "a b\nput a 0\nput abcdefgh " + "9" * 60)
        self.assertEqual(log, [entry for entry, text in ENTRIES])

    def test_tickets(self):
        self.assertEqual(ticket_text((0, "all", 0, (0, ()))), "0 all 0 0")
        self.assertEqual(ticket_text((12, "none", 3, (40, ("a",)))), "12 none 3 40 a")
        self.assertEqual(ticket_text((1, "ahead", 2, (3, ("a", "ab", "b")))), "1 ahead 2 3 a ab b")
        for number in NUMBERS:
            self.assertEqual(ticket_text((number, "all", number, (number, ("z",)))),
                             f"{number} all {number} {number} z")


class ReadLogTest(RefusalCase):
    def assert_read(self, text, row, log):
        told = read_log(text)
        self.assertEqual([type(part) for part in (told,) + told], [tuple, list, list])
        self.assertEqual({type(entry) for entry in told[1]} | {tuple}, {tuple})
        self.assertEqual(told, (row, log))
        self.assertEqual(log_text(row, log), text)

    def assert_no_text(self, line, text):
        self.assert_refused(NoText, line, read_log, text)

    def test_rows(self):
        self.assert_read("-", [], [])
        self.assert_read("a", ["a"], [])
        self.assert_read("put take all", ["put", "take", "all"], [])
        self.assert_read(" ".join(FORTY), FORTY, [])

    def test_entries(self):
        for entry, text in ENTRIES:
            self.assert_read("a b\n" + text, ["a", "b"], [entry])
            self.assert_read("-\n" + text + "\n" + text, [], [entry, entry])
        self.assert_read("\n".join(["-"] + [text for entry, text in ENTRIES]), [], [entry for entry, text in ENTRIES])

    def test_numbers(self):
        for number in NUMBERS:
            self.assert_read(f"-\nput a {number}", [], [("put", "a", number)])
            self.assert_read(f"-\nturn {number} 0", [], [("turn", number, 0)])
            self.assert_read(f"-\nturn 0 {number}", [], [("turn", 0, number)])

    def test_right_or_not(self):
        """Whether the entries are right is not looked at."""
        self.assert_read("a\nput a 0\ntake b\ntell l a\nover l\nmove a 99", ["a"],
                         [("put", "a", 0), ("take", "b"), ("tell", "l", "a"), ("over", "l"), ("move", "a", 99)])

    def test_drawn_logs(self):
        for seed in range(60):
            draw = drawn(seed)
            row = draw.sample(NAMES, draw.randint(0, 8))
            log = drawn_log(draw, row, draw.randint(0, 40), ["a", "l", "take", "over"])
            self.assert_read(log_text(row, log), row, log)
            self.assertIsNone(first_wrong(*read_log(log_text(row, log))))

    def test_400_entries(self):
        for many in (0, 1, 399, 400):
            self.assert_read("\n".join([" ".join(FORTY)] + ["take a"] * many), FORTY, [("take", "a")] * many)
        for many in (401, 402, 500):
            self.assert_no_text(401, "\n".join(["-"] + ["take a"] * many))
        self.assert_no_text(401, "\n".join(["-"] + ["take a"] * 400 + ["no"]))
        self.assert_no_text(401, "\n".join(["-"] + ["take a"] * 400 + [""]))
        self.assert_no_text(400, "\n".join(["-"] + ["take a"] * 399 + ["no", "take a"]))
        self.assert_no_text(0, "\n".join(["A"] + ["take a"] * 401))

    def test_wrong_rows(self):
        for row in ["", " ", "  ", " a", "a ", "a  b", " a b", "a b ", "- ", " -", "- -", "a -", "- a", "--", "a a",
                    "a b a", "b c a b", "0", "a 0",
                    "A", "a,b", " ".join(FORTY + ["a"]), " ".join(FORTY + ["a", "b"]),
                    " ".join(FORTY[:39] + FORTY[:1])]:
            for more in ("", "\ntake a", "\n", "\nno\nno"):
                self.assert_no_text(0, row + more)
        for name in NO_NAMES:
            for row in (f"{name} a", f"a {name}", f"a {name} b"):
                self.assert_no_text(0, row)

    def test_wrong_entries(self):
        for line in wrong_lines():
            self.assert_no_text(1, "a b\n" + line)
            self.assert_no_text(1, "-\n" + line + "\ntake a")
            self.assert_no_text(3, "-\ntake a\nput a 0\n" + line + "\ntake a\n" + line)

    def test_the_first_wrong_line_of_several(self):
        texts = [text for entry, text in ENTRIES]
        for first in range(1, len(texts) + 1):
            lines = ["a b"] + texts
            for line in range(first, len(texts) + 1, 2):
                lines[line] = "no such entry"
            self.assert_no_text(first, "\n".join(lines))
            self.assert_no_text(0, "\n".join(["a a"] + lines[1:]))

    def test_empty_lines(self):
        self.assert_no_text(0, "")
        self.assert_no_text(0, "\n")
        self.assert_no_text(0, "\n\n")
        self.assert_no_text(1, "-\n")
        self.assert_no_text(1, "a b\n\ntake a")
        self.assert_no_text(2, "a b\ntake a\n")
        self.assert_no_text(0, "\n-\ntake a")

    def test_new_each_time(self):
        told = read_log("a b\ntake a")
        told[0].append("more")
        told[1].append("more")
        self.assertEqual(read_log("a b\ntake a"), (["a", "b"], [("take", "a")]))
        for part in read_log("-"):
            part.append("more")
        self.assertEqual(read_log("-"), ([], []))

    def test_read_deeds_can_be_done(self):
        row, log = read_log("a b c\nput x 1\ntake b\nmove c 0\nturn 0 2")
        for deed in log:
            row = done(row, deed)
        self.assertEqual(row, ["a", "c", "x"])


class ReadTicketTest(RefusalCase):
    def assert_read(self, text, ticket):
        told = read_ticket(text)
        self.assertEqual([type(part) for part in (told,) + told + told[3]], [tuple, int, str, int, tuple, int, tuple])
        self.assertEqual(told, ticket)
        self.assertEqual(ticket_text(told), text)

    def test_right_ones(self):
        self.assert_read("0 all 0 0", (0, "all", 0, (0, ())))
        self.assert_read("3 none 2 1 a", (3, "none", 2, (1, ("a",))))
        self.assert_read("3 ahead 2 1 a ab abc b zz", (3, "ahead", 2, (1, ("a", "ab", "abc", "b", "zz"))))
        self.assert_read("1 all 1 1 all none", (1, "all", 1, (1, ("all", "none"))))
        for rule in RULES:
            for number in NUMBERS:
                self.assert_read(f"{number} {rule} 0 1 a b", (number, rule, 0, (1, ("a", "b"))))
                self.assert_read(f"0 {rule} {number} 1", (0, rule, number, (1, ())))
                self.assert_read(f"0 {rule} 1 {number}", (0, rule, 1, (number, ())))
        many = tuple(sorted(FORTY))
        self.assert_read("9 all 40 40 " + " ".join(many), (9, "all", 40, (40, many)))

    def test_drawn_ones(self):
        for seed in range(100):
            draw = drawn(seed)
            marks = tuple(sorted(draw.sample(NAMES, draw.randint(0, 8))))
            ticket = (draw.choice(NUMBERS), draw.choice(RULES), draw.choice(NUMBERS), (draw.choice(NUMBERS), marks))
            self.assert_read(ticket_text(ticket), ticket)

    def test_wrong_ones(self):
        wrong = ["", " ", "-", "0", "0 all", "0 all 0", "all 0 0 0", "0 0 0 0", "0 all all 0", "0 all 0 all",
                 "0 all 0 a", "0 all a 0", " 0 all 0 0",
                 "0 all 0 0 ", "0  all 0 0", "0 all  0 0", "0 all 0  0", "0 all 0 0  a", "0 all 0 0 a  b",
                 "0 all 0 0 a ", "0 all 0 0\n", "\n0 all 0 0",
                 "0 all 0 0\na", "0 all 0 0\n0 all 0 0", "0 all 0\n0", "0 all 0 0 -", "0 all 0 0 0", "0 all 0 0 1 a",
                 "0 all 0 0 b a", "0 all 0 0 a a",
                 "0 all 0 0 a b b", "0 all 0 0 a c b", "0 all 0 0 ab a", "0 all 0 0 a a b", "0 all 0 0 a b a", "all",
                 "0,all,0,0", "0 all 0 0;"]
        wrong += [f"0 all 0 0 {name}" for name in NO_NAMES] + [f"0 all 0 0 a {name}" for name in NO_NAMES]
        wrong += [f"0 {rule} 0 0" for rule in NO_RULES + ["", "all "]]
        for number in NO_NUMBERS:
            wrong += [f"{number} all 0 0", f"0 all {number} 0", f"0 all 0 {number}", f"0 all 0 {number} a"]
        for text in wrong:
            self.assert_refused(NoText, 0, read_ticket, text)
