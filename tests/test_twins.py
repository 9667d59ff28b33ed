from itertools import combinations, product

from stirround.errors import Full, NoLoop
from stirround.twins import parted, trial_judged
from tests.model import (
    FORTY, NAMES, NO_LOOPS_OF_ABC, RULES, RefusalCase, World, drawn, drawn_deed, drawn_loops, refusal_of,
)

ABC = ["a", "b", "c"]
STEP = ("step",)
LETTERS = "abcdefghijklmnopqrstuvwxyz"
# Rows of 37 things with many of the names that come to mind first, so that what a trial puts in must look further.
LONG_ROWS = [
    FORTY[:37], [letter + "a" for letter in LETTERS] + [letter + "b" for letter in LETTERS[:11]],
    list(LETTERS) + ["a" + letter for letter in LETTERS[:11]],
    ["a" + letter for letter in LETTERS] + list(LETTERS[:11]),
    [letter * many for letter in "abcde" for many in range(1, 9)][:37],
    ["x" + letter for letter in LETTERS] + NAMES[1:12],
]


def all_loops(row):
    comings = [coming for many in range(len(row) + 1) for coming in combinations(sorted(row), many)]
    return list(product(RULES, range(len(row) + 1), comings))


def by_the_sentence(one, other):
    """Point 18's last sentence."""
    same_rule, same_gap, same_coming = (part == another for part, another in zip(one, other))
    return same_rule and same_coming and (same_gap or one[0] == "none" and len(one[2]) < 2)


def told_by_both(row, one, other, trial):
    """What both tell, by the slow model; None where a deed is refused."""
    world = World(row)
    loops = [world.begin(rule) for rule in (one[0], other[0])]
    for loop, (rule, gap, coming) in zip(loops, (one, other)):
        world.set_at(loop, gap, coming)
    told = ([], [])
    for entry in trial:
        if entry == STEP:
            for names, loop in zip(told, loops):
                names.append(world.names.get(loop.step()))
        elif refusal_of(world.row(), entry) is not None:
            return None
        else:
            world.act(entry)
    return told


def slow_judged(row, one, other, trial, ones, others):
    """Points 18 and 19, word by word."""
    if len(trial) not in range(1, 101) or trial[-1] != STEP:
        return False
    if told_by_both(row, one, other, trial) != (ones, others):
        return False
    unlike = [number for number in range(len(ones)) if ones[number] != others[number]]
    return unlike == [len(ones) - 1]


def drawn_trial(draw, row, length):
    trial = []
    world = World(row)
    for number in range(length):
        deed = None if draw.random() < 0.4 else drawn_deed(draw, world.row())
        if deed is not None:
            world.act(deed)
        trial.append(STEP if deed is None else deed)
    return trial


class PartedTest(RefusalCase):
    def assert_parted(self, row, one, other):
        told = parted(list(row), one, other)
        if by_the_sentence(one, other):
            self.assertIsNone(told)
            return None
        self.assertEqual([type(part) for part in (told,) + told], [tuple, list, list, list])
        self.assertTrue(slow_judged(row, one, other, *told), (row, one, other, told))
        self.assertIs(trial_judged(row, one, other, *told), True)
        handed = tuple(row)
        self.assertEqual(parted(handed, one, other), told)
        self.assertEqual(handed, tuple(row))
        return told

    def test_rows_are_as_told(self):
        for row in LONG_ROWS:
            self.assertEqual((len(row), len(set(row))), (37, 37))

    def test_all_loops_of_short_rows(self):
        for row in ([], ["a"], ["b", "a"]):
            for one, other in product(all_loops(row), repeat=2):
                self.assert_parted(row, one, other)

    def test_loops_of_three_things(self):
        pairs = list(product(all_loops(["b", "c", "a"]), repeat=2))
        for one, other in pairs[::5]:
            self.assert_parted(["b", "c", "a"], one, other)

    def test_unlike_by_the_rule_alone(self):
        for row in [[], ["a"], ABC, FORTY[:10]] + LONG_ROWS:
            for one, other in product(RULES, repeat=2):
                for gap in sorted({0, 1, len(row) // 2, len(row)} & set(range(len(row) + 1))):
                    for coming in ((), row[:1], row[-1:], row[:2], row[::2], row):
                        coming = tuple(sorted(coming))
                        self.assert_parted(row, (one, gap, coming), (other, gap, coming))

    def test_unlike_by_the_gap_alone(self):
        for row in [["a"], ["b", "a"], ABC, FORTY[:6]] + LONG_ROWS:
            gaps = sorted({0, 1, 2, len(row) // 2, len(row) - 1, len(row)} & set(range(len(row) + 1)))
            for one, other in product(gaps, repeat=2):
                for coming in ((), row[:1], row[-1:], row[:2], row[-2:], row[:1] + row[-1:], row[1:3], row[::3], row):
                    for rule in RULES:
                        coming = tuple(sorted(set(coming)))
                        self.assert_parted(row, (rule, one, coming), (rule, other, coming))

    def test_unlike_by_one_to_come_alone(self):
        for row in [["a"], ["b", "a"], FORTY[:5]] + LONG_ROWS:
            for thing in (row[0], row[-1], row[len(row) // 2]):
                for one, other in product(RULES, repeat=2):
                    for coming in (row, row[:1], [thing]):
                        more = tuple(sorted(set(coming) | {thing}))
                        less = tuple(name for name in more if name != thing)
                        self.assert_parted(row, (one, 0, more), (other, 0, less))
                        self.assert_parted(row, (one, len(row), less), (other, 1, more))

    def test_drawn_loops(self):
        for seed in range(200):
            draw = drawn(seed)
            row = draw.choice(LONG_ROWS) if seed % 4 == 0 else draw.sample(NAMES, draw.randint(0, 9))
            one, other = drawn_loops(draw, row, 2)
            self.assert_parted(row, one, other)
            self.assert_parted(row, one, (other[0], other[1], one[2]))
            self.assert_parted(row, one, (one[0], other[1], one[2]))
            self.assert_parted(row, one, one)

    def test_no_trial_parts_twins(self):
        for seed in range(300):
            draw = drawn(seed)
            row = draw.sample(NAMES, draw.randint(0, 6))
            one = drawn_loops(draw, row, 1)[0]
            other = one
            if seed % 2:
                coming = tuple(draw.sample(row, min(len(row), draw.randint(0, 1))))
                one, other = (("none", draw.randint(0, len(row)), coming) for number in range(2))
            self.assertIsNone(parted(row, one, other))
            ones, others = told_by_both(row, one, other, drawn_trial(draw, row, 40))
            self.assertEqual(ones, others)

    def test_none_with_one_to_come(self):
        for coming in ((), ("a",), ("c",)):
            for one, other in product(range(4), repeat=2):
                self.assertIsNone(parted(ABC, ("none", one, coming), ("none", other, coming)))
                for rule in ("ahead", "all"):
                    self.assertEqual(parted(ABC, (rule, one, coming), (rule, other, coming)) is None, one == other)
        self.assertIsNotNone(parted(ABC, ("none", 0, ("a", "c")), ("none", 1, ("a", "c"))))
        self.assertIsNotNone(parted(ABC, ("none", 0, ("a",)), ("none", 0, ("c",))))
        self.assertIsNotNone(parted(ABC, ("none", 0, ("a",)), ("none", 0, ())))

    def test_new_each_time(self):
        whole = ("all", 0, ("a", "b", "c"))
        for other in (("all", 0, ("a", "b")), ("none", 0, whole[2]), ("all", 2, whole[2]), ("ahead", 3, whole[2])):
            told = parted(ABC, whole, other)
            kept = tuple(list(part) for part in told)
            for part in told:
                part.append("more")
            self.assertEqual(parted(ABC, whole, other), kept)
            self.assertEqual(ABC, ["a", "b", "c"])

    def test_refused(self):
        assert_refusals(self, parted)


def assert_refusals(case, call, *more):
    whole = ("all", 0, ("a", "b", "c"))
    for kind in (list, tuple):
        for thing in NO_LOOPS_OF_ABC:
            for one, other in ((thing, thing), (whole, thing), (thing, whole)):
                case.assert_refused(NoLoop, None, call, kind(ABC), one, other, *more)
        for many in (38, 39, 40):
            row = kind(FORTY[:many])
            right = ("none", many, tuple(sorted(row[1:])))
            for other in (right, ("all", 0, ())):
                case.assert_refused(Full, None, call, row, right, other, *more)
            for wrong in (("any", 0, ()), ("all", many + 1, ()), ("all", 0, ("q",))):
                for one, other in ((wrong, wrong), (wrong, right), (right, wrong)):
                    case.assert_refused(NoLoop, None, call, row, one, other, *more)


class TrialJudgedTest(RefusalCase):
    ONE = ("ahead", 0, ("a", "b", "c"))
    OTHER = ("all", 1, ("a", "b"))

    def assert_judged(self, answer, row, one, other, trial, told=None):
        """By the told lists, or else by those that both truly tell."""
        ones, others = told or told_by_both(row, one, other, trial)
        kept = (list(trial), list(ones), list(others))
        self.assertIs(slow_judged(row, one, other, trial, ones, others), answer)
        for handed in (list(row), tuple(row)):
            self.assertIs(trial_judged(handed, one, other, trial, ones, others), answer)
        self.assertEqual((trial, ones, others), kept)

    def test_right_ones(self):
        self.assert_judged(True, ABC, self.ONE, self.OTHER, [STEP])
        for trial in ([("take", "a"), ("take", "b"), STEP], [("move", "a", 2), ("move", "b", 1), STEP, STEP],
                      [("put", "x", 3), ("take", "c"), ("take", "a"), STEP, ("turn", 0, 2), ("put", "y", 0), STEP]):
            ones, others = told_by_both(ABC, self.ONE, self.OTHER, trial)
            self.assert_judged(ones != others and ones[:-1] == others[:-1], ABC, self.ONE, self.OTHER, trial)
        self.assert_judged(True, ABC, self.ONE, self.OTHER, [("take", "a"), ("take", "b"), STEP])
        self.assert_judged(True, [], ("none", 0, ()), ("all", 0, ()), [STEP, ("put", "a", 0), STEP])
        self.assert_judged(True, [], ("none", 0, ()), ("all", 0, ()), [("put", "a", 0), STEP])

    def test_no_entry(self):
        self.assert_judged(False, ABC, self.ONE, self.OTHER, [], ([], []))
        self.assert_judged(False, ABC, self.ONE, self.OTHER, [], (["a"], ["b"]))
        self.assert_judged(False, ABC, self.ONE, self.ONE, [], ([], []))

    def test_up_to_a_hundred(self):
        for many in (99, 100, 101, 102, 150, 200):
            trial = [("turn", 0, 0)] * (many - 1) + [STEP]
            self.assert_judged(many <= 100, ABC, self.ONE, self.OTHER, trial)
            trial = [STEP] * (many - 2) + [("put", "x", 0), STEP]
            self.assert_judged(many <= 100, [], ("all", 0, ()), ("none", 0, ()), trial)

    def test_the_last_one_a_deed(self):
        for deed in (("turn", 0, 0), ("take", "a"), ("put", "x", 0)):
            self.assert_judged(False, ABC, self.ONE, self.OTHER, [STEP, deed])
            self.assert_judged(False, ABC, self.ONE, self.OTHER, [deed], (["a"], ["b"]))
            self.assert_judged(False, ABC, self.ONE, self.OTHER, [deed], ([], []))

    def test_a_refused_deed(self):
        told = told_by_both(ABC, self.ONE, self.OTHER, [STEP])
        wrong = [("put", "a", 0), ("put", "A", 0), ("put", "x", 4), ("put", "x", -1), ("take", "x"), ("move", "x", 0),
                 ("move", "a", 3), ("move", "a", -1), ("turn", -1, 0), ("turn", 2, 1), ("turn", 0, 4), ("turn", 4, 4)]
        for deed in wrong:
            self.assert_judged(False, ABC, self.ONE, self.OTHER, [deed, STEP], told)
            self.assert_judged(False, ABC, self.ONE, self.OTHER, [("turn", 0, 1), deed, STEP], told)
        for row in LONG_ROWS:
            puts = [("put", name, 0) for name in ("qrsta", "qrstb", "qrstc", "qrstd")]
            one, other = ("none", 0, (row[0],)), ("none", 0, (row[1],))
            self.assert_judged(True, row, one, other, puts[:3] + [STEP])
            self.assert_judged(False, row, one, other, puts + [STEP], ([row[0]], [row[1]]))
            self.assert_judged(True, row, one, other, puts[:3] + [("take", "qrsta"), puts[3], STEP])

    def test_parted_too_early(self):
        self.assert_judged(False, ABC, self.ONE, self.OTHER, [STEP, STEP])
        self.assert_judged(False, ABC, self.ONE, self.OTHER, [STEP, ("take", "a"), STEP])
        self.assert_judged(False, ABC, ("all", 0, ("a",)), ("all", 0, ("a", "b")), [STEP, STEP, STEP])
        self.assert_judged(True, ABC, ("all", 0, ("a",)), ("all", 0, ("a", "b")), [STEP, STEP])

    def test_not_parted(self):
        self.assert_judged(False, ABC, ("all", 0, ("a",)), ("all", 0, ("a", "b")), [STEP])
        for trial in ([STEP], [STEP, STEP], [("put", "x", 0), STEP], [("take", "a"), STEP]):
            self.assert_judged(False, ABC, self.ONE, self.ONE, trial)
            self.assert_judged(False, ABC, ("none", 0, ("b",)), ("none", 3, ("b",)), trial)

    def test_other_told_lists(self):
        one, other, trial = ("all", 0, ("a",)), ("all", 0, ("a", "b")), [STEP, STEP]
        ones, others = ["a", None], ["a", "b"]
        self.assert_judged(True, ABC, one, other, trial, (ones, others))
        for wrong in ([], ["a"], ["a", None, None], ["a", "b"], ["a", "c"], ["b", None], [None, "a"], [None, None],
                      ["a", ""],
                      ["a", "None"]):
            self.assert_judged(False, ABC, one, other, trial, (wrong, others))
        for wrong in ([], ["a"], ["a", "b", "c"], ["a", "b", None], ["a", None], ["b", "b"], ["a", "a"], [None, "b"],
                      ["b"],
                      ["b", "a"], ["a", "x"]):
            self.assert_judged(False, ABC, one, other, trial, (ones, wrong))
        for wrong in ((others, ones), (["b", None], ["b", "b"]), ([], []), ([None], ["b"])):
            self.assert_judged(False, ABC, one, other, trial, wrong)

    def test_drawn_trials(self):
        right, wrong = 0, 0
        for seed in range(4000):
            draw = drawn(seed)
            row = draw.sample(NAMES, draw.randint(0, 5))
            one, other = drawn_loops(draw, row, 2)
            if draw.random() < 0.6:
                other = (other[0], other[1], one[2])
            trial = drawn_trial(draw, row, draw.randint(0, 8)) + [STEP] * draw.randint(0, 1)
            ones, others = told_by_both(row, one, other, trial)
            if draw.random() < 0.1:
                draw.choice([ones, others])[:] = draw.choice([ones, others, ones[:-1], others + [None]])
            answer = slow_judged(row, one, other, trial, ones, others)
            self.assertIs(trial_judged(row, one, other, trial, ones, others), answer)
            right, wrong = right + answer, wrong + (not answer)
        self.assertGreater(min(right, wrong), 300)

    def test_refused(self):
        for more in (([], [], []), ([STEP], ["a"], [None]), ([("take", "q"), STEP], [None], ["a"])):
            assert_refusals(self, trial_judged, *more)
