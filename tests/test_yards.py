from itertools import product

from stirround.deeds import done
from stirround.errors import Full, Gone, NoName, NoPlace, NoRule, NoTicket, Stale, There, TooMany
from stirround.loops import begun, led, step
from stirround.yards import Yard
from tests.model import FORTY, NAMES, RULES, RefusalCase, World, all_deeds, drawn, drawn_deed, refusal_of

ABC = ["a", "b", "c"]
NO_NAMES = ["", "A", "a1", "a b", "abcdefghi", "-", "a\n"]
NO_RULES = ["", "None", "ALL", "all ", "ahea", "any"]
LOOPS = ["a", "b", "x", "l", "abcdefgh"]
TWELVE = ["l" + letter for letter in "abcdefghijkl"]


def fewest_marks(row, coming):
    """By trying each gap."""
    return min(
        len([name for name in row[:gap] if name in coming] + [name for name in row[gap:] if name not in coming])
        for gap in range(len(row) + 1)
    )


def shown_by(row, slip):
    return tuple(sorted(name for place, name in enumerate(row) if (place >= slip[0]) != (name in slip[1])))


def slips_showing(row, coming):
    """All slips that show just these, by their gaps."""
    return [
        (gap, tuple(sorted(name for place, name in enumerate(row) if (place >= gap) != (name in coming))))
        for gap in range(len(row) + 1)
    ]


class SlowYard:
    """All rows and deeds of a yard, and its loops, each led anew from the time of its ticket."""

    def __init__(self, row):
        self.first = list(row)
        self.deeds = []

    def world_at(self, number):
        world = World(self.first)
        for deed in self.deeds[:number]:
            world.act(deed)
        return world

    def paged(self, ticket, many):
        number, rule, gap, slip = ticket
        world = self.world_at(number)
        loop = world.begin(rule)
        world.set_at(loop, gap, shown_by(world.row(), slip))
        for deed in self.deeds[number:]:
            world.act(deed)
        told = [loop.step() for turn in range(many)]
        return [world.names[thing] for thing in told if thing is not None], loop.as_loop()


class YardCase(RefusalCase):
    def snapshot(self, yard):
        loops = [(name, yard.loop(name), yard.ticket_of(name)) for name in yard.loops()]
        return (yard.row(), yard.count(), loops, [yard.ticket(rule) for rule in RULES])

    def assert_refused_without_change(self, yard, error, field, call, *arguments):
        kept = self.snapshot(yard)
        self.assert_refused(error, field, call, *arguments)
        self.assertEqual(self.snapshot(yard), kept)

    def assert_ticket(self, ticket, row, number, loop):
        """The ticket of the loop at that time, with a least slip."""
        self.assertEqual([type(part) for part in (ticket,) + ticket], [tuple, int, str, int, tuple])
        self.assertEqual([type(part) for part in ticket[3]], [int, tuple])
        self.assertEqual(ticket[:3], (number, loop[0], loop[1]))
        slip = ticket[3]
        self.assertIn(slip[0], range(len(row) + 1))
        self.assertEqual(list(slip[1]), sorted(set(slip[1])))
        self.assertLessEqual(set(slip[1]), set(row))
        self.assertEqual(shown_by(row, slip), loop[2])
        self.assertEqual(len(slip[1]), fewest_marks(row, loop[2]))

    def assert_page(self, yard, slow, ticket, many):
        kept = self.snapshot(yard)
        told = yard.page(ticket, many)
        names, loop = slow.paged(ticket, many)
        self.assertEqual((type(told), type(told[0]), len(told)), (tuple, list, 2))
        self.assertEqual(told[0], names)
        self.assert_ticket(told[1], yard.row(), yard.count(), loop)
        told[0].append("more")
        self.assertEqual(yard.page(ticket, many), (names, told[1]))
        self.assertEqual(self.snapshot(yard), kept)
        return (names, told[1])


class MakingTest(YardCase):
    def test_rows(self):
        for row in ([], ["a"], ABC, FORTY, FORTY[:39]):
            for handed in (list(row), tuple(row)):
                yard = Yard(handed)
                self.assertEqual((yard.row(), yard.count(), yard.loops()), (row, 0, []))
                self.assertIs(type(yard.row()), list)

    def test_no_name(self):
        for name in NO_NAMES:
            for kind in (list, tuple):
                self.assert_refused(NoName, name, Yard, kind([name]))
                self.assert_refused(NoName, name, Yard, kind(ABC + [name]))
                self.assert_refused(NoName, name, Yard, kind(["a", "a", name]))
                self.assert_refused(NoName, name, Yard, kind([name, name]))
                self.assert_refused(NoName, name, Yard, kind(FORTY + ["a", name]))
                self.assert_refused(NoName, name, Yard, kind(["a", name, "B", "c d"]))

    def test_there(self):
        for kind in (list, tuple):
            self.assert_refused(There, "a", Yard, kind(["a", "a"]))
            self.assert_refused(There, "b", Yard, kind(["a", "b", "b", "a"]))
            self.assert_refused(There, "a", Yard, kind(["b", "a", "a", "b"]))
            self.assert_refused(There, "b", Yard, kind(["a", "b", "c", "b", "c", "a"]))
            self.assert_refused(There, "a", Yard, kind(FORTY + ["a", "a"]))
            self.assert_refused(There, FORTY[7], Yard, kind(FORTY + [FORTY[7], FORTY[0]]))
            self.assert_refused(There, "a", Yard, kind(["a"] * 100))

    def test_full(self):
        hundred = FORTY + ["m" + name for name in FORTY] + ["k" + name for name in FORTY[:20]]
        for kind in (list, tuple):
            for many in (41, 42, 100):
                self.assert_refused(Full, None, Yard, kind(hundred[:many]))

    def test_the_row_that_was_handed_in(self):
        row = ["a", "b", "c"]
        yard = Yard(row)
        yard.begin("l", "all")
        yard.act(("take", "b"))
        self.assertEqual(row, ["a", "b", "c"])
        row.append("x")
        row[0] = "y"
        self.assertEqual(yard.row(), ["a", "c"])
        self.assertEqual(yard.page((0, "none", 0, (0, ())), 9)[0], ["a", "c"])

    def test_told_lists(self):
        yard = Yard(ABC)
        yard.begin("l", "all")
        ticket = yard.ticket("all")
        for turn in range(3):
            for told in (yard.row(), yard.loops(), yard.page(ticket, turn)[0]):
                told.append("more")
                told[0] = "other"
            yard.act(("turn", 0, 3))
        self.assertEqual((yard.row(), yard.loops(), yard.count()), (["c", "b", "a"], ["l"], 3))
        self.assertEqual(yard.page(ticket, 60)[0], ["c", "b", "a"])

    def test_two_yards(self):
        one, other = Yard(ABC), Yard(ABC)
        one.begin("l", "all")
        one.act(("take", "a"))
        one.forget(1)
        self.assertEqual((other.row(), other.loops(), other.count()), (ABC, [], 0))
        self.assertEqual(other.page((0, "all", 0, (0, ())), 60)[0], ABC)


class KeptLoopsTest(YardCase):
    def test_begin(self):
        for row, rule in product(([], ["b", "a"], FORTY), RULES):
            yard = Yard(row)
            self.assertIsNone(yard.begin("l", rule))
            self.assertEqual(yard.loop("l"), (rule, 0, tuple(sorted(row))))
            self.assertEqual(yard.loops(), ["l"])

    def test_names_of_loops_are_sorted(self):
        yard = Yard(ABC)
        for name in ("b", "ab", "a", "abc", "z", "aa"):
            yard.begin(name, "none")
        self.assertEqual(yard.loops(), ["a", "aa", "ab", "abc", "b", "z"])
        self.assertIs(type(yard.loops()), list)

    def test_begin_refused(self):
        yard = Yard(ABC)
        yard.begin("l", "all")
        for name in NO_NAMES:
            for rule in ("all", "any"):
                self.assert_refused_without_change(yard, NoName, name, yard.begin, name, rule)
        for rule in RULES + ("any",):
            self.assert_refused_without_change(yard, There, "l", yard.begin, "l", rule)
        for rule in NO_RULES:
            self.assert_refused_without_change(yard, NoRule, rule, yard.begin, "m", rule)

    def test_twelve_loops(self):
        yard = Yard(ABC)
        for name in TWELVE:
            yard.begin(name, "all")
        self.assertEqual(yard.loops(), TWELVE)
        for rule in RULES:
            self.assert_refused_without_change(yard, TooMany, None, yard.begin, "m", rule)
        self.assert_refused_without_change(yard, NoName, "M", yard.begin, "M", "all")
        self.assert_refused_without_change(yard, There, "lc", yard.begin, "lc", "all")
        self.assert_refused_without_change(yard, NoRule, "any", yard.begin, "m", "any")
        self.assertIsNone(yard.drop("lc"))
        yard.begin("m", "all")
        self.assertEqual(yard.loops(), sorted(set(TWELVE) - {"lc"} | {"m"}))
        self.assert_refused_without_change(yard, TooMany, None, yard.begin, "lc", "all")

    def test_gone(self):
        yard = Yard(ABC)
        yard.begin("l", "all")
        yard.begin("m", "all")
        yard.drop("m")
        for name in ["a", "m", "q"] + NO_NAMES:
            for call in (yard.step, yard.loop, yard.drop, yard.ticket_of):
                self.assert_refused_without_change(yard, Gone, name, call, name)

    def test_a_loop_with_nothing_to_come_stays_kept(self):
        yard = Yard(["a"])
        for rule in RULES:
            yard.begin(rule, rule)
            self.assertEqual([yard.step(rule) for turn in range(3)], ["a", None, None])
        self.assertEqual(yard.loops(), sorted(RULES))
        yard.act(("put", "b", 1))
        yard.act(("put", "c", 0))
        self.assertEqual([yard.step("none")], [None])
        self.assertEqual([yard.step("ahead"), yard.step("ahead")], ["b", None])
        self.assertEqual([yard.step("all"), yard.step("all"), yard.step("all")], ["b", "c", None])
        self.assertEqual(yard.loops(), sorted(RULES))
        with self.assertRaises(There):
            yard.begin("none", "none")

    def test_dropped_and_begun_again(self):
        yard = Yard(ABC)
        yard.begin("l", "none")
        yard.step("l")
        yard.drop("l")
        self.assertEqual(yard.loops(), [])
        yard.begin("l", "all")
        self.assertEqual(yard.loop("l"), ("all", 0, ("a", "b", "c")))

    def test_deeds_refused(self):
        for row in ([], ABC, FORTY):
            yard = Yard(row)
            for rule in RULES:
                yard.begin(rule, rule)
                yard.step(rule)
            tried = all_deeds(row[:4], ["a", "b", "q", "Q", "", FORTY[0]], 2) + [("put", "q", 40), ("put", "q", 41)]
            for deed in tried:
                refusal = refusal_of(row, deed)
                if refusal is not None:
                    self.assert_refused_without_change(yard, refusal[0], refusal[1], yard.act, deed)
            self.assertEqual(yard.count(), 0)

    def test_against_deeds_and_loops_done_one_by_one(self):
        for seed in range(80):
            draw = drawn(seed)
            row = draw.sample(FORTY, 34) if seed % 8 == 0 else draw.sample(NAMES, draw.randint(0, 7))
            yard, loops, deeds = Yard(row), {}, 0
            for turn in range(40):
                name = draw.choice(LOOPS)
                deed = drawn_deed(draw, row, ("take", "move", "turn")
                                  if len(row) == 40 else ("put", "take", "move", "turn"))
                kind = draw.choice(["begin", "step", "step", "drop", "deed", "deed", "deed"])
                if kind == "begin" and name not in loops:
                    rule = draw.choice(RULES)
                    self.assertIsNone(yard.begin(name, rule))
                    loops[name] = begun(row, rule)
                elif kind == "step" and name in loops:
                    told, loops[name] = step(row, loops[name])
                    self.assertEqual(yard.step(name), told)
                elif kind == "drop" and name in loops:
                    self.assertIsNone(yard.drop(name))
                    loops.pop(name)
                else:
                    self.assertIsNone(yard.act(deed))
                    loops = {name: led(row, loop, deed) for name, loop in loops.items()}
                    row = done(row, deed)
                    deeds += 1
                self.assertEqual((yard.row(), yard.count(), yard.loops()), (row, deeds, sorted(loops)))
                self.assertEqual({name: yard.loop(name) for name in yard.loops()}, loops)


class TicketTest(YardCase):
    def test_of_a_loop_begun_now(self):
        for row, rule in product(([], ["a"], ["b", "a"], FORTY), RULES):
            yard = Yard(row)
            for turn in range(3):
                self.assert_ticket(yard.ticket(rule), yard.row(), turn, (rule, 0, tuple(sorted(yard.row()))))
                self.assertEqual(yard.loops(), [])
                yard.act(("turn", 0, turn and len(row)))

    def test_no_rule(self):
        yard = Yard(ABC)
        for rule in NO_RULES:
            self.assert_refused_without_change(yard, NoRule, rule, yard.ticket, rule)

    def test_of_kept_loops(self):
        for seed in range(60):
            draw = drawn(seed)
            yard = Yard(draw.sample(NAMES, draw.randint(0, 8)))
            for rule in RULES:
                yard.begin(rule, rule)
            for turn in range(25):
                if draw.random() < 0.4:
                    yard.step(draw.choice(RULES))
                else:
                    yard.act(drawn_deed(draw, yard.row()))
                for name in yard.loops():
                    self.assert_ticket(yard.ticket_of(name), yard.row(), yard.count(), yard.loop(name))
                    self.assertEqual(yard.ticket_of(name), yard.ticket_of(name))

    def test_pages_of_any_time_and_slip(self):
        for seed in range(60):
            draw = drawn(seed)
            row = draw.sample(FORTY, 36) if seed % 10 == 0 else draw.sample(NAMES, draw.randint(0, 7))
            yard, slow = Yard(row), SlowYard(row)
            for turn in range(draw.randint(0, 20)):
                slow.deeds.append(drawn_deed(draw, yard.row(), ("put", "take", "move", "turn")[len(yard.row()) > 39:]))
                yard.act(slow.deeds[-1])
            for turn in range(15):
                number = draw.randint(0, len(slow.deeds))
                then = slow.world_at(number).row()
                marks = tuple(sorted(draw.sample(then, draw.randint(0, len(then)))))
                slip = (draw.randint(0, len(then)), marks)
                ticket = (number, draw.choice(RULES), draw.randint(0, len(then)), slip)
                self.assert_page(yard, slow, ticket, draw.choice([0, 1, 2, 5, 60]))

    def test_each_slip_of_the_same_things(self):
        deeds = [("take", "c"), ("put", "c", 0), ("move", "e", 1), ("put", "x", 3), ("turn", 1, 5), ("put", "y", 6)]
        row = ["a", "b", "c", "d", "e"]
        yard, slow = Yard(row), SlowYard(row)
        for deed in deeds:
            yard.act(deed)
            slow.deeds.append(deed)
        for number in range(len(deeds) + 1):
            then = slow.world_at(number).row()
            coming = then[1:3] + then[4:]
            for rule, gap in product(RULES, range(len(then) + 1)):
                pages = [self.assert_page(yard, slow, (number, rule, gap, slip), 4)
                         for slip in slips_showing(then, coming)]
                self.assertEqual(pages, [pages[0]] * len(pages))

    def test_pages_of_a_kept_loop(self):
        """A page tells what the loop tells that was kept, from the time of its ticket on."""
        for seed in range(60):
            draw = drawn(seed)
            yard = Yard(draw.sample(NAMES, draw.randint(0, 8)))
            rule = draw.choice(RULES)
            yard.begin("l", rule)
            for turn in range(10):
                ticket = yard.ticket_of("l")
                for number in range(draw.randint(0, 4)):
                    yard.act(drawn_deed(draw, yard.row()))
                many = draw.choice([0, 1, 2, 3])
                told, behind = yard.page(ticket, many)
                steps = [yard.step("l") for number in range(many)]
                self.assertEqual(told, [name for name in steps if name is not None])
                self.assertEqual(behind[:3], (yard.count(), rule, yard.loop("l")[1]))
                self.assertEqual(behind, yard.ticket_of("l"))

    def test_handed_on_page_by_page(self):
        for seed in range(60):
            draw = drawn(seed)
            yard = Yard(draw.sample(NAMES, draw.randint(0, 8)))
            for turn in range(draw.randint(0, 5)):
                yard.act(drawn_deed(draw, yard.row()))
            tickets = {rule: yard.ticket(rule) for rule in RULES}
            for rule in RULES:
                yard.begin(rule, rule)
            for turn in range(30):
                if draw.random() < 0.5:
                    yard.act(drawn_deed(draw, yard.row()))
                else:
                    rule = draw.choice(RULES)
                    many = draw.choice([0, 1, 1, 2])
                    told, tickets[rule] = yard.page(tickets[rule], many)
                    steps = [yard.step(rule) for number in range(many)]
                    self.assertEqual(told, [name for name in steps if name is not None])
                    self.assertEqual(tickets[rule], yard.ticket_of(rule))
            for rule in RULES:
                told, ticket = yard.page(tickets[rule], 60)
                self.assertEqual(told, [yard.step(rule) for number in range(len(told))])
                self.assertIsNone(yard.step(rule))
                self.assertEqual(yard.page(ticket, 60), ([], ticket))

    def test_comes_back_twice_and_late(self):
        yard = Yard(ABC)
        ticket = yard.ticket("all")
        self.assertEqual(yard.page(ticket, 2)[0], ["a", "b"])
        self.assertEqual(yard.page(ticket, 2)[0], ["a", "b"])
        self.assertEqual(yard.page(ticket, 60)[0], ["a", "b", "c"])
        yard.act(("take", "b"))
        yard.act(("put", "x", 0))
        self.assertEqual(yard.page(ticket, 60)[0], ["x", "a", "c"])
        for turn in range(150):
            yard.act(("turn", 0, 3))
            yard.act(("move", "a", 1))
        self.assertEqual(yard.page(ticket, 60)[0], yard.row())
        self.assertEqual(yard.page((0, "none", 3, (0, ())), 60)[0], [name for name in yard.row() if name != "x"])

    def test_a_thing_that_comes_again_is_another_one(self):
        yard = Yard(ABC)
        yard.begin("l", "none")
        tickets = [yard.ticket(rule) for rule in RULES]
        yard.act(("take", "a"))
        yard.act(("put", "a", 0))
        self.assertEqual([yard.page(ticket, 60)[0] for ticket in tickets], [["b", "c"], ABC, ABC])

    def test_pages_leave_the_yard(self):
        yard = Yard(ABC)
        yard.begin("l", "ahead")
        yard.step("l")
        for many in (0, 1, 3, 60):
            for ticket in (yard.ticket("all"), yard.ticket_of("l")):
                kept = self.snapshot(yard)
                yard.page(ticket, many)
                self.assertEqual(self.snapshot(yard), kept)
        self.assertEqual([yard.step("l"), yard.step("l"), yard.step("l")], ["b", "c", None])

    def test_long_pages(self):
        yard, slow = Yard(FORTY), SlowYard(FORTY)
        for many in (0, 1, 39, 40, 41, 60, 61):
            names = self.assert_page(yard, slow, yard.ticket("none"), many)[0]
            self.assertEqual(names, FORTY[:many])


class NoTicketTest(YardCase):
    """Of a yard of a b c, in which d was put in at 3, then a taken out, so that b c d stands."""

    def yard(self, forgotten=0):
        yard = Yard(ABC)
        yard.act(("put", "d", 3))
        yard.act(("take", "a"))
        yard.forget(forgotten)
        return yard

    def assert_no_ticket(self, yard, *ticket):
        for many in (0, 60):
            self.assert_refused_without_change(yard, NoTicket, None, yard.page, ticket, many)

    def test_numbers(self):
        for yard in (self.yard(), self.yard(2)):
            for number in (-1, -2, 3, 4, 10 ** 59, -(10 ** 59)):
                self.assert_no_ticket(yard, number, "all", 0, (0, ()))
        self.assert_no_ticket(Yard([]), 1, "all", 0, (0, ()))
        self.assertEqual(Yard([]).page((0, "all", 0, (0, ())), 1), ([], (0, "all", 0, (0, ()))))

    def test_rules(self):
        for rule in NO_RULES:
            for number in (0, 1, 2):
                self.assert_no_ticket(self.yard(), number, rule, 0, (0, ()))
                self.assert_no_ticket(self.yard(2), number, rule, 0, (0, ()))

    def test_gaps_of_its_own_time(self):
        for number, length in ((0, 3), (1, 4), (2, 3)):
            for gap in (-1, length + 1, 10 ** 59, -(10 ** 59)):
                self.assert_no_ticket(self.yard(), number, "all", gap, (0, ()))
                self.assert_no_ticket(self.yard(), number, "all", 0, (gap, ()))
            for gap in range(length + 1):
                self.yard().page((number, "all", gap, (gap, ())), 3)

    def test_slips_of_its_own_time(self):
        for number, row in ((0, "abc"), (1, "abcd"), (2, "bcd")):
            for name in "abcde":
                if name in row:
                    self.yard().page((number, "all", 0, (0, (name,))), 3)
                else:
                    self.assert_no_ticket(self.yard(), number, "all", 0, (0, (name,)))
                    self.assert_no_ticket(self.yard(), number, "all", 0, (0, tuple(sorted(["b", name]))))
            for marks in (("c", "b"), ("b", "b"), ("b", "b", "c"), ("",), ("B",), ("b", "c", "b"), ("c", "b", "c")):
                self.assert_no_ticket(self.yard(), number, "all", 0, (0, marks))

    def test_stale(self):
        yard = self.yard(1)
        for many in (0, 60):
            self.assert_refused_without_change(yard, Stale, 0, yard.page, (0, "all", 0, (0, ())), many)
        self.assertEqual(yard.page((1, "all", 0, (0, ())), 60)[0], ["b", "c", "d"])
        yard = self.yard(2)
        for number in (0, 1):
            self.assert_refused_without_change(yard, Stale, number, yard.page, (number, "all", 0, (0, ())), 1)
        self.assertEqual(yard.page((2, "all", 0, (0, ())), 60)[0], ["b", "c", "d"])

    def test_order_of_refusals(self):
        yard = self.yard(2)
        for gap, slip in product((0, 9, -1), ((0, ()), (9, ()), (0, ("z",)), (0, ("c", "b")))):
            for number in (-1, 3):
                self.assert_no_ticket(yard, number, "all", gap, slip)
            for number in (0, 1):
                self.assert_no_ticket(yard, number, "any", gap, slip)
                self.assert_refused_without_change(yard, Stale, number, yard.page, (number, "all", gap, slip), 1)
            if gap != 0 or slip != (0, ()):
                self.assert_no_ticket(yard, 2, "all", gap, slip)


class ForgetTest(YardCase):
    def yard(self):
        yard = Yard(ABC)
        for deed in (("take", "b"), ("put", "x", 0), ("turn", 0, 3), ("move", "x", 0)):
            yard.act(deed)
        return yard

    def assert_stale_below(self, yard, bound):
        for number in range(yard.count() + 1):
            ticket = (number, "all", 0, (0, ()))
            if number < bound:
                self.assert_refused(Stale, number, yard.page, ticket, 1)
            else:
                self.assertEqual(sorted(yard.page(ticket, 60)[0]), sorted(yard.row()))

    def test_any_number(self):
        for number in range(5):
            yard = self.yard()
            yard.begin("l", "none")
            kept = self.snapshot(yard)
            self.assertIsNone(yard.forget(number))
            self.assertEqual(self.snapshot(yard), kept)
            self.assert_stale_below(yard, number)

    def test_a_lesser_number_behind_a_greater_one(self):
        for first, second in product(range(5), repeat=2):
            yard = self.yard()
            yard.forget(first)
            self.assertIsNone(yard.forget(second))
            self.assertEqual(yard.count(), 4)
            self.assert_stale_below(yard, max(first, second))

    def test_no_place(self):
        for forgotten in (0, 2, 4):
            yard = self.yard()
            yard.forget(forgotten)
            for number in (-1, -5, 5, 6, 10 ** 59, -(10 ** 59)):
                self.assert_refused_without_change(yard, NoPlace, number, yard.forget, number)
            self.assert_stale_below(yard, forgotten)
        yard = Yard([])
        self.assertIsNone(yard.forget(0))
        self.assert_refused_without_change(yard, NoPlace, 1, yard.forget, 1)

    def test_goes_on(self):
        for seed in range(40):
            draw = drawn(seed)
            row = draw.sample(NAMES, draw.randint(0, 7))
            yard, slow, bound = Yard(row), SlowYard(row), 0
            for turn in range(40):
                if draw.random() < 0.15:
                    number = draw.randint(0, yard.count())
                    yard.forget(number)
                    bound = max(bound, number)
                else:
                    slow.deeds.append(drawn_deed(draw, yard.row()))
                    yard.act(slow.deeds[-1])
                self.assertEqual(yard.count(), len(slow.deeds))
                number = draw.randint(0, yard.count())
                then = slow.world_at(number).row()
                ticket = (number, draw.choice(RULES), draw.randint(0, len(then)), (draw.randint(0, len(then)), ()))
                if number < bound:
                    self.assert_refused_without_change(yard, Stale, number, yard.page, ticket, 3)
                else:
                    self.assert_page(yard, slow, ticket, 3)
