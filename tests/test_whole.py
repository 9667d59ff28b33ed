"""Whole runs over several modules."""

from stirround.brands import brands
from stirround.desk import Desk
from stirround.endings import ending, nth, reckoned
from stirround.errands import Errands, ran
from stirround.lines import lines_of
from stirround.logs import first_wrong, state_behind, tallied
from stirround.loops import rest
from stirround.slips import least_marks, least_slip, shown
from stirround.texts import deed_text, log_text, read_log
from stirround.twins import parted
from stirround.yards import Yard
from tests.model import FORTY, NAMES, RULES, Judge, RefusalCase, drawn, drawn_book, drawn_deed

PAGED = ["pa", "pb", "pc"]
KEPT = ["a", "l", "m", "n"]


class DeskRun:
    """A desk with kept loops and loops that are handed on by tickets, and the log of all that it does."""

    def __init__(self, draw, row):
        self.draw = draw
        self.first = row
        self.desk = Desk()
        self.desk.say(" ".join(["row"] + row))
        self.log = []
        self.kept = {}
        self.tickets = {}

    def row(self):
        return self.desk.say("show").replace("-", "").split()

    def begin(self):
        fresh = [name for name in KEPT if name not in self.kept]
        if fresh:
            rule = self.draw.choice(RULES)
            self.kept[fresh[0]] = True
            self.desk.say(f"begin {fresh[0]} {rule}")
            self.log.append(("begin", fresh[0], rule))

    def begin_paged(self):
        fresh = [name for name in PAGED if name not in self.tickets]
        if fresh:
            rule = self.draw.choice(RULES)
            self.tickets[fresh[0]] = self.desk.say(f"ticket {rule}")
            self.log.append(("begin", fresh[0], rule))

    def step(self):
        running = [name for name in self.kept if self.kept[name]]
        if running:
            name = self.draw.choice(running)
            told = self.desk.say(f"step {name}")
            self.kept[name] = told != "-"
            self.log.append(("tell", name, told) if told != "-" else ("over", name))

    def page(self):
        if self.tickets:
            name = self.draw.choice(list(self.tickets))
            answer = self.desk.say(f"page {self.draw.randint(0, 3)} {self.tickets[name]}")
            told, self.tickets[name] = answer.split(" ; ")
            self.log.extend(("tell", name, thing) for thing in told.replace("-", "").split())

    def act(self):
        deed = drawn_deed(self.draw, self.row())
        self.desk.say(deed_text(deed))
        self.log.append(deed)


class WholeTest(RefusalCase):
    def test_a_desk_written_down_as_a_log(self):
        for seed in range(80):
            draw = drawn(seed)
            run = DeskRun(draw, draw.sample(NAMES, draw.randint(0, 7)))
            for turn in range(60):
                draw.choice([run.begin, run.begin_paged, run.step, run.step, run.page, run.page, run.act, run.act,
                             run.act])()
            row, log = read_log(log_text(run.first, run.log))
            self.assertEqual((row, log), (run.first, run.log))
            self.assertIsNone(first_wrong(row, log))
            self.assertIsNone(Judge(row).first_wrong(log))
            behind, loops = state_behind(row, log)
            self.assertEqual(behind, run.row())
            self.assertEqual(set(loops), {name for name in run.kept if run.kept[name]} | set(run.tickets))
            for name, loop in loops.items():
                to_come = " ".join(rest(behind, loop)) or "-"
                if name in run.kept:
                    self.assertEqual(run.desk.say(f"rest {name}"), to_come)
                    self.assertEqual(run.desk.say(f"marks {name}"), str(least_marks(behind, loop[2])))
                else:
                    self.assertEqual(run.desk.say(f"page 60 {run.tickets[name]}").split(" ; ")[0], to_come)
                begun, joined, told, taken, left = tallied(row, log, name)
                self.assertEqual(begun + joined, told + taken + left)

    def test_what_is_to_come_told_in_three_ways(self):
        for seed in range(60):
            draw = drawn(seed)
            row = draw.sample(NAMES, draw.randint(0, 8)) if seed % 6 else draw.sample(FORTY, 34)
            yard = Yard(row)
            for turn in range(40):
                kind = draw.choice(["begin", "step", "step", "step", "deed", "deed"])
                if kind == "begin" and len(yard.loops()) < 12:
                    yard.begin("l" + "abcdefghijkl"[len(yard.loops())], draw.choice(RULES))
                elif kind == "step" and yard.loops():
                    yard.step(draw.choice(yard.loops()))
                elif len(yard.row()) < 40:
                    yard.act(drawn_deed(draw, yard.row()))
            self.assert_three_ways(yard.row(), [yard.loop(name) for name in yard.loops()])

    def assert_three_ways(self, row, loops):
        numbers, keys = brands(row, loops)
        lines, seats, apart = lines_of(row, loops)
        for loop, key, (line, gap) in zip(loops, keys, seats):
            by_slip = sorted(shown(row, least_slip(row, loop[2])[0]))
            by_brands = sorted(name for name, number in zip(row, numbers) if number in key)
            by_line = sorted(lines[line][gap:])
            self.assertEqual([by_slip, by_brands, by_line, sorted(rest(row, loop))], [list(loop[2])] * 4)

    def test_an_errand_thing_by_thing_in_a_yard(self):
        ended = 0
        for seed in range(150):
            draw = drawn(seed)
            kinds = drawn_book(draw, seed % 3 != 0)
            crowd = [draw.choice(kinds)[0] for number in range(draw.randint(0, 4))]
            for rule in RULES:
                ended += self.assert_errand_in_a_yard(kinds, crowd, rule)
        self.assertGreater(ended, 200)

    def assert_errand_in_a_yard(self, kinds, crowd, rule):
        """Up to thirty things, since a yard has room for forty. Whether it came to its end."""
        book = Errands(kinds)
        kind_of = dict(zip(FORTY, crowd))
        yard = Yard(list(kind_of))
        yard.begin("l", rule)
        told = []
        while yard.loop("l")[2] and len(kind_of) < 30:
            name = yard.step("l")
            told.append(kind_of[name])
            self.do_errand(book, yard, kind_of, name)
        standing = [kind_of[name] for name in yard.row()]
        over = not yard.loop("l")[2]
        run = ran(book, crowd, rule, len(told))
        self.assertEqual((run[0], run[1], run[3]), (told, standing, over))
        if over:
            words = book.words()
            self.assertEqual(ending(book, crowd, rule)[0], "ends")
            self.assertEqual(reckoned(book, crowd, rule), (tuple(map(told.count, words)), run[2],
                                                           tuple(map(standing.count, words))))
        if over and rule == "ahead":
            self.assertEqual([nth(book, crowd, n) for n in range(len(told) + 1)], told + [None])
        return over

    def do_errand(self, book, yard, kind_of, name):
        nexts = 0
        for where, kind in book.puts(kind_of[name]):
            place = yard.row().index(name)
            fresh = next(one for one in FORTY if one not in kind_of)
            kind_of[fresh] = kind
            at = {"next": place + 1 + nexts, "last": len(yard.row()), "back": place, "first": 0}[where]
            yard.act(("put", fresh, at))
            nexts += where == "next"
        if book.goes(kind_of[name]):
            yard.act(("take", name))

    def test_a_trial_done_in_a_yard(self):
        """Both loops of a trial, handed on by tickets in one yard, tell what the trial tells."""
        for seed in range(60):
            draw = drawn(seed)
            row = draw.sample(NAMES, draw.randint(0, 6))
            loops = []
            for number in range(2):
                coming = draw.sample(row, draw.randint(0, len(row)))
                loops.append((draw.choice(RULES), draw.randint(0, len(row)), tuple(sorted(coming))))
            told = parted(row, *loops)
            if told is None:
                continue
            yard = Yard(row)
            tickets = [(0, rule, gap, least_slip(row, coming)[0]) for rule, gap, coming in loops]
            names = ([], [])
            for entry in told[0]:
                if entry != ("step",):
                    yard.act(entry)
                    continue
                for number in range(2):
                    page, tickets[number] = yard.page(tickets[number], 1)
                    names[number].append(page[0] if page else None)
            self.assertEqual(names, told[1:])
