from stirround.deeds import done
from stirround.errors import Gone, NoLog
from stirround.logs import first_wrong, state_behind, tallied
from stirround.loops import begun, led, step
from tests.model import FORTY, NAMES, RULES, Judge, RefusalCase, drawn, drawn_deed, drawn_log

ROW = ["a", "b", "c"]
# Loops are called like things, too.
LOOPS = ["a", "b", "x", "abcdefgh"]
NO_NAMES = ["", "A", "a1", "a b", "abcdefghi", "-", "a\n"]
NO_RULES = ["", "None", "ALL", "all ", "ahea", "any"]
# Right behind each other from ROW on.
FEW = [
    ("begin", "a", "ahead"), ("tell", "a", "b"), ("put", "d", 3), ("take", "a"), ("begin", "l", "none"),
    ("tell", "a", "d"), ("tell", "a", "c"), ("over", "a"), ("move", "d", 0), ("tell", "l", "c"), ("turn", 0, 3),
    ("tell", "l", "b"), ("put", "a", 1), ("tell", "l", "d"), ("over", "l"), ("take", "b"),
]


def wrong_deeds(row):
    """Deeds that are refused; q never stands in a row here."""
    end = len(row)
    deeds = [("put", name, 0) for name in NO_NAMES] + [("take", name) for name in NO_NAMES + ["q"]]
    deeds += [("put", "q", -1), ("put", "q", end + 1), ("put", "q", 10 ** 59), ("move", "q", 0), ("move", "A", 0)]
    deeds += [("turn", -1, 0), ("turn", end + 1, end + 1), ("turn", 0, -1), ("turn", 0, end + 1), ("turn", end, end - 1)]
    if row:
        deeds += [("put", row[0], 0), ("move", row[0], -1), ("move", row[0], end)]
    return deeds


def wrong_others(judge):
    """Begins, tells and overs that are wrong behind what the judge has let by, each with its fault."""
    found = [("no name", ("begin", name, "all")) for name in NO_NAMES]
    found += [("no rule", ("begin", "fresh", rule)) for rule in NO_RULES]
    for rule in RULES:
        found += [("running" if name in judge.open else "over", ("begin", name, rule)) for name in judge.seen]
    things = [judge.world.names[thing] for thing in judge.world.things]
    for name in ["never", "A", ""] + [name for name in judge.seen if name not in judge.open]:
        found += [("tell of none", ("tell", name, thing)) for thing in things + ["q"]]
        found.append(("over of none", ("over", name)))
    for name, loop in judge.open.items():
        coming = [judge.world.names[thing] for thing in loop.coming]
        found += [("not to come", ("tell", name, thing)) for thing in things + ["q", "A", ""] if thing not in coming]
        told = [judge.world.names[thing] for thing in judge.seen[name]["told"]]
        found += [("told", ("tell", name, thing)) for thing in told if thing not in coming]
        taken = [judge.world.names[thing] for thing in judge.seen[name]["taken"]]
        found += [("taken out", ("tell", name, thing)) for thing in taken if thing not in coming]
        if coming:
            found.append(("too early", ("over", name)))
    return found


class LogsCase(RefusalCase):
    def assert_first_wrong(self, row, log, number):
        """All three agree, of a list and of a tuple, and nothing that is handed in is changed."""
        kept = list(log)
        for handed in (list(row), tuple(row)):
            self.assertEqual(first_wrong(handed, log), number)
            if number is not None:
                self.assertIs(type(first_wrong(handed, log)), int)
                self.assert_refused(NoLog, number, state_behind, handed, log)
                for loop in ["a", "never", "A"]:
                    self.assert_refused(NoLog, number, tallied, handed, log, loop)
            self.assertEqual(list(handed), list(row))
            self.assertEqual(log, kept)

    def assert_right(self, row, log):
        self.assert_first_wrong(row, log, None)


class RightTest(LogsCase):
    def test_none_and_few(self):
        for row in ([], ROW, FORTY):
            self.assert_right(row, [])
        for length in range(len(FEW) + 1):
            self.assert_right(ROW, FEW[:length])
        self.assert_right([], [("begin", "a", "all"), ("over", "a"), ("put", "a", 0), ("turn", 0, 1), ("take", "a")])

    def test_four_hundred(self):
        for seed in range(4):
            draw = drawn(seed)
            row = draw.sample(FORTY if seed else NAMES, 9 if seed != 1 else 40)
            log = drawn_log(draw, row, 400, LOOPS + ["l" + letter for letter in "abcdefgh"])
            self.assertEqual(len(log), 400)
            self.assert_right(row, log)
        self.assert_right(ROW, [("move", "a", number % 3) for number in range(400)])
        letters = "abcdefghijklmnopqrst"
        self.assert_right([], [("begin", one + other, "all") for one in letters for other in letters])

    def test_told_in_another_order_than_steps_do(self):
        for order in ("abc", "acb", "bac", "bca", "cab", "cba"):
            for rule in RULES:
                log = [("begin", "l", rule)] + [("tell", "l", name) for name in order] + [("over", "l")]
                self.assert_right(ROW, log)

    def test_all_that_loops_do(self):
        for seed in range(80):
            draw = drawn(seed)
            first = draw.sample(NAMES, draw.randint(0, 8))
            row, log, loops, over = list(first), [], {}, []
            for turn in range(60):
                name = draw.choice(LOOPS)
                if draw.random() < 0.5:
                    deed = drawn_deed(draw, row)
                    loops = {other: led(row, loop, deed) for other, loop in loops.items()}
                    row = done(row, deed)
                    log.append(deed)
                elif name in loops:
                    told, loops[name] = step(row, loops[name])
                    log.append(("over", name) if told is None else ("tell", name, told))
                    if told is None:
                        loops.pop(name)
                        over.append(name)
                elif name not in over:
                    rule = draw.choice(RULES)
                    loops[name] = begun(row, rule)
                    log.append(("begin", name, rule))
            self.assert_right(first, log)
            self.assertEqual(state_behind(first, log), (row, loops))


class WrongTest(LogsCase):
    def test_deeds(self):
        begin = ("begin", "l", "all")
        for row in ([], ["a"], ROW, FORTY):
            for deed in wrong_deeds(row):
                self.assert_first_wrong(row, [deed], 0)
                self.assert_first_wrong(row, [begin, deed], 1)
        self.assert_first_wrong(FORTY, [begin, ("put", "x", 40)], 1)
        self.assert_first_wrong(FORTY[:39], [("put", "x", 39), begin, ("put", "y", 0)], 2)
        self.assert_first_wrong(ROW, [("take", "a"), ("take", "a")], 1)
        self.assert_first_wrong(ROW, [("put", "d", 3), ("put", "d", 4)], 1)
        self.assert_right(ROW, [("take", "a"), ("put", "a", 2), ("take", "a")])

    def test_begins(self):
        for name in NO_NAMES:
            self.assert_first_wrong(ROW, [("begin", name, "all")], 0)
        for rule in NO_RULES:
            self.assert_first_wrong(ROW, [("begin", "l", rule)], 0)
        for rule in RULES:
            self.assert_first_wrong(ROW, [("begin", "l", rule), ("begin", "l", "all")], 1)
            self.assert_first_wrong([], [("begin", "l", rule), ("over", "l"), ("begin", "l", "all")], 2)
        self.assert_right(ROW, [("begin", "l", "all"), ("begin", "ll", "all")])

    def test_tells(self):
        begin = ("begin", "l", "all")
        for name in ["a", "l", "never"]:
            self.assert_first_wrong(ROW, [("tell", name, "a")], 0)
            self.assert_first_wrong([], [("begin", "o", "all"), ("over", "o"), ("tell", name, "a")], 2)
        self.assert_first_wrong(ROW, [("tell", "l", "a"), begin], 0)
        self.assert_first_wrong([], [begin, ("over", "l"), ("put", "a", 0), ("tell", "l", "a")], 3)
        self.assert_first_wrong(ROW, [begin, ("tell", "l", "d")], 1)
        self.assert_first_wrong(ROW, [begin, ("tell", "l", "l")], 1)
        self.assert_first_wrong(ROW, [begin, ("tell", "l", "a"), ("tell", "l", "a")], 2)
        self.assert_first_wrong(ROW, [begin, ("take", "a"), ("tell", "l", "a")], 2)
        self.assert_first_wrong(ROW, [begin, ("tell", "l", "b"), ("turn", 0, 3), ("tell", "l", "b")], 3)

    def test_tells_of_what_was_put_in(self):
        for rule, early, late in (("none", False, False), ("ahead", False, True), ("all", True, True)):
            for at, right in ((0, early), (1, early), (2, late), (3, late)):
                log = [("begin", "l", rule), ("tell", "l", "b"), ("put", "d", at), ("tell", "l", "d")]
                self.assert_first_wrong(ROW, log, None if right else 3)
                # a thing that comes back is another one
                log = [("begin", "l", rule), ("tell", "l", "b"), ("put", "d", 0), ("take", "b"), ("put", "b", at)]
                self.assert_first_wrong(ROW, log + [("tell", "l", "b")], None if right else 5)

    def test_the_gap_is_right_behind_what_was_told(self):
        """The rule ahead tells by what is put in then where the gap stands."""
        for number, name in enumerate(ROW):
            for at in range(4):
                log = [("begin", "l", "ahead"), ("tell", "l", name), ("put", "d", at), ("tell", "l", "d")]
                self.assert_first_wrong(ROW, log, None if at > number else 3)

    def test_overs(self):
        begin = ("begin", "l", "none")
        for name in ["a", "l", "never"]:
            self.assert_first_wrong(ROW, [("over", name)], 0)
        self.assert_first_wrong(ROW, [begin, ("over", "l")], 1)
        log = [begin, ("tell", "l", "a"), ("take", "b"), ("tell", "l", "c"), ("over", "l")]
        self.assert_right(ROW, log)
        self.assert_first_wrong(ROW, log[:3] + log[4:], 3)
        self.assert_first_wrong(ROW, log + [("over", "l")], 5)
        self.assert_first_wrong(ROW, log + [("over", "never")], 5)
        self.assert_first_wrong([], [("begin", "l", "all"), ("put", "a", 0), ("over", "l")], 2)

    def test_the_first_of_several(self):
        wrong = ("over", "never")
        self.assert_first_wrong(ROW, [wrong, wrong, ("take", "q")], 0)
        self.assert_first_wrong(ROW, FEW + [("take", "q"), wrong], len(FEW))

    def test_a_thing_and_a_loop_of_one_name(self):
        log = [("begin", "a", "all"), ("take", "a"), ("tell", "a", "b"), ("put", "a", 0), ("tell", "a", "a")]
        self.assert_right(ROW, log)
        self.assert_right(ROW, log + [("tell", "a", "c"), ("over", "a"), ("move", "a", 1), ("take", "a")])
        self.assert_first_wrong(ROW, log + [("tell", "a", "a")], 5)
        self.assert_right(ROW, [("begin", "a", "all"), ("begin", "b", "none"), ("tell", "a", "b"), ("tell", "b", "a")])
        self.assert_first_wrong(ROW, [("begin", "a", "all"), ("tell", "b", "a")], 1)

    def test_each_fault_at_each_place(self):
        faults = {}
        for seed in range(8):
            draw = drawn(seed)
            row = draw.sample(NAMES, draw.randint(2, 5))
            log = drawn_log(draw, row, 40, LOOPS)
            judge = Judge(row)
            for number, entry in enumerate(log):
                wrong = [("deed", deed) for deed in wrong_deeds(judge.world.row())] + wrong_others(judge)
                for fault, other in wrong:
                    faults[fault] = faults.get(fault, 0) + 1
                    self.assertEqual(first_wrong(row, log[:number] + [other] + log[number + 1:]), number, fault)
                    self.assertEqual(first_wrong(row, log[:number] + [other] + log[number:]), number, fault)
                self.assertTrue(judge.lets_by(entry))
        self.assertEqual(len(faults), 11)

    def test_one_entry_put_otherwise_against_the_model(self):
        for seed in range(150):
            draw = drawn(seed)
            row = draw.sample(NAMES, draw.randint(0, 5))
            log = drawn_log(draw, row, 30, LOOPS)
            other = drawn_log(draw, row, 30, LOOPS)
            for number in range(30):
                changed = log[:number] + [draw.choice(other)] + log[number + 1:]
                self.assertEqual(first_wrong(row, changed), Judge(row).first_wrong(changed))
                self.assertEqual(first_wrong(row, log[:number] + log[number + 1:]),
                                 Judge(row).first_wrong(log[:number] + log[number + 1:]))


def behind_one_by_one(row, log):
    """The state behind a right log, by what the deeds and loops themselves do."""
    loops = {}
    for entry in log:
        if entry[0] == "begin":
            loops[entry[1]] = begun(row, entry[2])
        elif entry[0] == "tell":
            rule, gap, coming = loops[entry[1]]
            loops[entry[1]] = (rule, row.index(entry[2]) + 1, tuple(name for name in coming if name != entry[2]))
        elif entry[0] == "over":
            loops.pop(entry[1])
        else:
            loops = {name: led(row, loop, entry) for name, loop in loops.items()}
            row = done(row, entry)
    return (row, loops)


class StateBehindTest(LogsCase):
    def test_ordinary(self):
        self.assertEqual(state_behind(ROW, FEW[:1]), (ROW, {"a": ("ahead", 0, ("a", "b", "c"))}))
        self.assertEqual(state_behind(ROW, FEW[:2]), (ROW, {"a": ("ahead", 2, ("a", "c"))}))
        self.assertEqual(state_behind(ROW, FEW[:3]), (["a", "b", "c", "d"], {"a": ("ahead", 2, ("a", "c", "d"))}))
        self.assertEqual(state_behind(ROW, FEW[:5]), (["b", "c", "d"], {
            "a": ("ahead", 1, ("c", "d")), "l": ("none", 0, ("b", "c", "d")),
        }))
        self.assertEqual(state_behind(ROW, FEW[:7])[1]["a"], ("ahead", 2, ()))
        self.assertEqual(state_behind(ROW, FEW[:8]), (["b", "c", "d"], {"l": ("none", 0, ("b", "c", "d"))}))
        self.assertEqual(state_behind(ROW, FEW), (["c", "a", "d"], {}))

    def test_of_no_entries(self):
        for row in ([], ROW, FORTY):
            for handed in (list(row), tuple(row)):
                told = state_behind(handed, [])
                self.assertEqual(told, (row, {}))
                self.assertEqual((type(told), type(told[0]), type(told[1])), (tuple, list, dict))

    def test_against_one_by_one_and_the_model(self):
        for seed in range(60):
            draw = drawn(seed)
            row = draw.sample(NAMES if seed < 50 else FORTY, draw.randint(0, 10 if seed < 50 else 40))
            log = drawn_log(draw, row, 60, LOOPS)
            for length in range(0, 61, 1 + seed % 4):
                judge = Judge(row)
                self.assertIsNone(judge.first_wrong(log[:length]))
                told = state_behind(row, log[:length])
                self.assertEqual(told, behind_one_by_one(row, log[:length]))
                self.assertEqual(told, (judge.world.row(), judge.loops()))
                self.assertEqual(state_behind(tuple(row), log[:length]), told)

    def test_new_each_time(self):
        for log in ([], FEW[:6], [("begin", "l", "all")]):
            row = list(ROW)
            told = state_behind(row, log)
            kept = (list(told[0]), dict(told[1]))
            told[0].append("more")
            told[1]["more"] = ("all", 0, ())
            self.assertEqual(row, ROW)
            again = state_behind(row, log)
            self.assertEqual(again, kept)
            row.clear()
            self.assertEqual(again, kept)

    def test_refused(self):
        for number in range(len(FEW)):
            log = FEW[:number] + [("over", "never")] + FEW[number:]
            self.assert_refused(NoLog, number, state_behind, ROW, log)


class TalliedTest(LogsCase):
    def assert_tally(self, log, loop, tally):
        for row in (list(ROW), tuple(ROW)):
            self.assertEqual(tallied(row, log, loop), tally)
            self.assertIs(type(tallied(row, log, loop)), tuple)

    def test_ordinary(self):
        self.assert_tally(FEW, "a", (3, 1, 3, 1, 0))
        self.assert_tally(FEW, "l", (3, 0, 3, 0, 0))
        self.assert_tally(FEW[:1], "a", (3, 0, 0, 0, 3))
        self.assert_tally(FEW[:6], "a", (3, 1, 2, 1, 1))
        self.assert_tally([("take", "a"), ("begin", "l", "all")], "l", (2, 0, 0, 0, 2))

    def test_by_each_rule(self):
        log = [("tell", "l", "b"), ("put", "d", 0), ("put", "e", 4), ("take", "d"), ("take", "e"), ("put", "d", 0),
               ("put", "e", 4), ("take", "a"), ("take", "b"), ("move", "c", 0), ("turn", 0, 3)]
        for rule, tally in (("none", (3, 0, 1, 1, 1)), ("ahead", (3, 2, 1, 2, 2)), ("all", (3, 4, 1, 3, 3))):
            self.assert_tally([("begin", "l", rule)] + log, "l", tally)

    def test_up_to_its_over(self):
        for rule, joined in (("none", 0), ("ahead", 1), ("all", 1)):
            log = [("begin", "l", rule)] + [("tell", "l", name) for name in "bca"]
            self.assert_tally(log + [("put", "z", 3)], "l", (3, joined, 3, 0, joined))
            self.assert_tally(log + [("put", "z", 3), ("take", "z"), ("over", "l")], "l", (3, joined, 3, joined, 0))
            self.assert_tally(log + [("over", "l"), ("put", "z", 3), ("take", "a"), ("take", "z")], "l", (3, 0, 3, 0, 0))

    def test_a_told_thing_taken_out_is_not_taken(self):
        log = [("begin", "l", "none"), ("tell", "l", "a"), ("take", "a"), ("take", "b")]
        self.assert_tally(log, "l", (3, 0, 1, 1, 1))

    def test_against_the_model(self):
        over, running = 0, 0
        for seed in range(100):
            draw = drawn(seed)
            row = draw.sample(NAMES, draw.randint(0, 6))
            log = drawn_log(draw, row, 80, LOOPS)
            judge = Judge(row)
            judge.first_wrong(log)
            for name, seen in judge.seen.items():
                tally = tallied(row, log, name)
                self.assertEqual(tally, judge.tally(name))
                self.assertEqual(tally[0] + tally[1], tally[2] + tally[3] + tally[4])
                # each thing that stood at the begin and was not taken out ahead of its tell is told just once
                left = [] if name not in judge.open else judge.open[name].coming
                self.assertEqual(sorted(seen["begun"] + seen["joined"]), sorted(seen["told"] + seen["taken"] + left))
                if name in judge.open:
                    running += 1
                else:
                    over += 1
                    self.assertEqual(tally[4], 0)
        self.assertGreater(min(over, running), 20)

    def test_refused(self):
        self.assert_refused(Gone, "never", tallied, ROW, FEW, "never")
        self.assert_refused(Gone, "b", tallied, ROW, FEW, "b")
        self.assert_refused(Gone, "A", tallied, ROW, [], "A")
        self.assert_refused(Gone, "a", tallied, tuple(ROW), [], "a")
        wrong = FEW + [("over", "a"), ("begin", "late", "all")]
        for loop in ("a", "late", "never", ""):
            self.assert_refused(NoLog, len(FEW), tallied, ROW, wrong, loop)

    def test_nothing_is_changed(self):
        row, log = list(ROW), list(FEW)
        self.assertEqual(tallied(row, log, "a"), tallied(row, log, "a"))
        self.assertEqual((row, log), (ROW, FEW))
