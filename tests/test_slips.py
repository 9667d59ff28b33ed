from itertools import combinations, permutations, product

from stirround.deeds import done
from stirround.errors import Gone
from stirround.loops import begun, led, step
from stirround.slips import least_marks, least_slip, shown, slip_judged
from tests.model import FORTY, NAMES, RULES, RefusalCase, all_deeds, drawn, drawn_deed, refusal_of

ROW = ["b", "d", "a", "c"]
SHORT = [[], ["a"], ["b", "a"], ["c", "a", "b"], ROW, ["e", "b", "ab", "a", "d"], ["f", "c", "a", "e", "b", "d"]]
# Some of the forty: none, all, one, every other thing, the first and the last ones.
OF_FORTY = [[], FORTY, FORTY[:1], FORTY[19:20], FORTY[39:], FORTY[::2], FORTY[1::2], FORTY[:20], FORTY[20:], FORTY[5::7]]


def some_of(things):
    return [list(some) for many in range(len(things) + 1) for some in combinations(things, many)]


def slow_shown(row, slip):
    """Place by place: a thing is shown where just one of behind and unmarked is so."""
    return [name for place, name in enumerate(row) if (place < slip[0]) == (name in slip[1])]


def slips_of(row):
    """Every slip of a short row."""
    return [(gap, tuple(sorted(marks))) for gap in range(len(row) + 1) for marks in some_of(row)]


def marks_for(row, gap, coming):
    """What a slip with this gap marks to show just these: there is one way for each gap."""
    return tuple(sorted(name for place, name in enumerate(row) if (place < gap) == (name in coming)))


def fewest_by_all_gaps(row, coming):
    return min(len(marks_for(row, gap, coming)) for gap in range(len(row) + 1))


def slow_judged(row, coming, slip, pairs):
    """Point 14 word by word, the fewest marks by trying all gaps."""
    gap, marks = slip
    if gap not in range(len(row) + 1) or list(marks) != [name for name in sorted(row) if name in marks]:
        return False
    if set(slow_shown(row, slip)) != set(coming) or len(marks) != fewest_by_all_gaps(row, coming):
        return False
    things = [name for pair in pairs for name in pair]
    if len(pairs) != len(marks) or any(things.count(name) != 1 or name not in row for name in things):
        return False
    return all(one in coming and other not in coming and row.index(one) < row.index(other) for one, other in pairs)


class SlipsCase(RefusalCase):
    def assert_least(self, row, coming):
        answers = []
        for handed_row in (list(row), tuple(row)):
            for handed in (list(coming), tuple(coming), coming[::-1], tuple(coming[::-1])):
                kept = type(handed)(handed)
                told = least_slip(handed_row, handed)
                self.assertEqual((type(told), type(told[0]), type(told[1])), (tuple, tuple, list))
                self.assertEqual((type(told[0][0]), type(told[0][1])), (int, tuple))
                self.assertEqual([type(pair) for pair in told[1]], [tuple] * len(told[1]))
                self.assertTrue(slow_judged(row, coming, told[0], told[1]), (row, coming, told))
                self.assertEqual(shown(handed_row, told[0]), [name for name in row if name in coming])
                self.assertIs(slip_judged(handed_row, handed, told[0], told[1]), True)
                self.assertEqual(least_marks(handed_row, handed), len(told[0][1]))
                self.assertEqual((handed, list(handed_row)), (kept, list(row)))
                self.assertEqual(least_slip(handed_row, handed), told)
                answers.append(told)
        return answers[0]


class ShownTest(SlipsCase):
    def test_ordinary(self):
        self.assertEqual(shown(ROW, (0, ())), ROW)
        self.assertEqual(shown(ROW, (4, ())), [])
        self.assertEqual(shown(ROW, (2, ())), ["a", "c"])
        self.assertEqual(shown(ROW, (2, ("b", "c"))), ["b", "a"])
        self.assertEqual(shown(ROW, (2, ("a", "b", "c", "d"))), ["b", "d"])
        self.assertEqual(shown(ROW, (0, ("a", "b", "c", "d"))), [])
        self.assertEqual(shown(ROW, (4, ("a", "b", "c", "d"))), ROW)
        self.assertEqual(shown([], (0, ())), [])

    def test_every_slip_of_short_rows(self):
        for row in SHORT:
            for slip in slips_of(row):
                for handed in (list(row), tuple(row)):
                    told = shown(handed, slip)
                    self.assertIs(type(told), list)
                    self.assertEqual(told, slow_shown(row, slip), (row, slip))
                    self.assertEqual(list(handed), row)

    def test_forty(self):
        for gap in (0, 1, 17, 40):
            for marks in OF_FORTY:
                slip = (gap, tuple(sorted(marks)))
                self.assertEqual(shown(FORTY, slip), slow_shown(FORTY, slip))

    def test_new_each_time(self):
        row = list(ROW)
        told = shown(row, (0, ()))
        told.append("more")
        self.assertEqual((row, shown(row, (0, ()))), (ROW, ROW))


class LeastSlipTest(SlipsCase):
    def test_ordinary(self):
        slip, pairs = self.assert_least(["a", "b", "c"], ["b"])
        self.assertIn(slip, [(1, ("c",)), (3, ("b",))])
        self.assertEqual(pairs, [("b", "c")])
        self.assertEqual(self.assert_least(ROW, []), ((4, ()), []))
        self.assertEqual(self.assert_least(ROW, list(ROW)), ((0, ()), []))
        self.assertEqual(self.assert_least(ROW, ["a", "c"]), ((2, ()), []))
        self.assertEqual(least_marks(ROW, ["b", "d"]), 2)
        self.assertEqual(least_marks(ROW, ["b", "a"]), 2)
        self.assertEqual(least_marks(ROW, ["d", "c"]), 1)

    def test_every_some_of_short_rows(self):
        for row in SHORT:
            for coming in some_of(row):
                self.assert_least(row, coming)

    def test_coming_in_any_order(self):
        for coming in permutations(["a", "c", "d"]):
            self.assert_least(ROW, list(coming))

    def test_forty(self):
        for coming in OF_FORTY:
            self.assert_least(FORTY, coming)
        self.assertEqual(least_marks(FORTY, FORTY[::2]), 20)
        self.assertEqual(least_marks(FORTY, FORTY[1::2]), 19)
        self.assertEqual(least_marks(FORTY, FORTY[:20]), 20)
        self.assertEqual(least_marks(FORTY, FORTY[20:]), 0)
        for seed in range(40):
            draw = drawn(seed)
            self.assert_least(draw.sample(FORTY, 40), draw.sample(FORTY, draw.randint(0, 40)))

    def test_every_slip_that_shows_these_marks_one_of_each_pair(self):
        for row in SHORT[:5]:
            for coming in some_of(row):
                slip, pairs = least_slip(row, coming)
                for other in slips_of(row):
                    if set(slow_shown(row, other)) == set(coming):
                        self.assertGreaterEqual(len(other[1]), len(slip[1]))
                        for pair in pairs:
                            self.assertTrue(set(pair) & set(other[1]))

    def test_new_each_time(self):
        for coming in (["b"], list(ROW)):
            slip, pairs = least_slip(ROW, coming)
            kept = list(pairs)
            pairs.append(("more", "more"))
            self.assertEqual(least_slip(ROW, coming), (slip, kept))

    def test_gone(self):
        for call in (least_slip, least_marks):
            for kind in (list, tuple):
                self.assert_refused(Gone, "x", call, ROW, kind(["x"]))
                self.assert_refused(Gone, "x", call, tuple(ROW), kind(["a", "x", "b", "e"]))
                self.assert_refused(Gone, "z", call, ROW, kind(["c", "z", "x", "e"]))
                self.assert_refused(Gone, "", call, ROW, kind(["a", "", "z"]))
                self.assert_refused(Gone, "a", call, [], kind(["a"]))
                self.assert_refused(Gone, "ab", call, FORTY, kind(FORTY + ["ab"]))


class SlipJudgedTest(SlipsCase):
    def assert_judged(self, answer, row, coming, slip, pairs):
        self.assertIs(slow_judged(row, coming, slip, pairs), answer)
        for handed_row in (list(row), tuple(row)):
            for handed in (list(coming), tuple(coming), coming[::-1]):
                kept = list(pairs)
                self.assertIs(slip_judged(handed_row, handed, slip, pairs), answer, (row, coming, slip, pairs))
                self.assertEqual((list(handed_row), pairs), (list(row), kept))

    def test_right_ones(self):
        self.assert_judged(True, ["a", "b", "c"], ["b"], (1, ("c",)), [("b", "c")])
        self.assert_judged(True, ["a", "b", "c"], ["b"], (3, ("b",)), [("b", "c")])
        self.assert_judged(True, ROW, ["b", "d"], (0, ("a", "c")), [("b", "a"), ("d", "c")])
        self.assert_judged(True, ROW, ["b", "d"], (0, ("a", "c")), [("d", "a"), ("b", "c")])
        self.assert_judged(True, ROW, ["b", "d"], (0, ("a", "c")), [("b", "c"), ("d", "a")])
        self.assert_judged(True, ROW, ["b", "d"], (4, ("b", "d")), [("b", "c"), ("d", "a")])
        self.assert_judged(True, [], [], (0, ()), [])
        self.assert_judged(True, FORTY, FORTY[:20], (40, tuple(FORTY[:20])), list(zip(FORTY[:20], FORTY[20:])))

    def test_a_wrong_gap(self):
        for gap in (-10 ** 59, -4, -1, 4, 5, 10 ** 59):
            self.assert_judged(False, ["a", "b", "c"], ["b"], (gap, ("b",)), [("b", "c")])
            self.assert_judged(False, ["a", "b", "c"], [], (gap, ()), [])
            self.assert_judged(False, ["a", "b", "c"], ["a", "b", "c"], (gap, ()), [])
        self.assert_judged(True, ["a", "b", "c"], [], (3, ()), [])
        # as a slice from the end on these would show just the right ones
        self.assert_judged(False, ["a", "b", "c"], ["b"], (-2, ("c",)), [("b", "c")])
        self.assert_judged(False, ["a", "b", "c"], ["b", "c"], (-2, ()), [])

    def test_wrong_marks(self):
        pairs = [("b", "a"), ("d", "c")]
        for marks in [("c", "a"), ("a", "a"), ("a", "c", "c"), ("a", "a", "c"), ("a", "x"), ("a", "c", "x"), ("", "a", "c"),
                      ("a",), ("c",), (), ("a", "b", "c"), ("a", "d"), ("b", "d")]:
            self.assert_judged(False, ROW, ["b", "d"], (0, marks), pairs)
        self.assert_judged(False, ROW, ["b", "d"], (0, ("a", "c", "x")), pairs + [("b", "x")])

    def test_other_things_shown(self):
        self.assert_judged(False, ["a", "b", "c"], ["b"], (1, ()), [])
        self.assert_judged(False, ["a", "b", "c"], ["b"], (2, ("c",)), [("b", "c")])
        self.assert_judged(False, ["a", "b", "c"], ["b", "c"], (1, ("c",)), [("b", "c")])
        self.assert_judged(False, ["a", "b", "c"], [], (3, ("a",)), [("a", "b")])
        self.assert_judged(False, ["a", "b", "c"], ["a", "b", "c"], (1, ()), [])

    def test_more_marks_than_pairs_or_fewer(self):
        self.assert_judged(False, ["a", "b", "c"], ["b"], (1, ("c",)), [])
        self.assert_judged(False, ["a", "b", "c"], ["b"], (0, ("a", "c")), [("b", "c")])
        self.assert_judged(False, ["a", "b", "c"], ["b"], (0, ("a", "c")), [("b", "c"), ("b", "c")])
        self.assert_judged(False, ROW, ["a", "c"], (2, ()), [("b", "a")])
        self.assert_judged(False, ROW, ["b", "d"], (0, ("a", "c")), [("b", "a")])
        self.assert_judged(False, ["b", "a"], ["a"], (1, ()), [("a", "b")])
        self.assert_judged(False, ["b", "d", "a", "c", "e"], ["b", "a"], (0, ("c", "d", "e")), [("b", "d"), ("a", "c")])
        self.assert_judged(False, ["b", "a", "d", "c"], ["b", "d"], (4, ("b", "d")), [("b", "a"), ("d", "c"), ("b", "c")])

    def test_a_thing_twice(self):
        for pairs in ([("b", "a"), ("b", "c")], [("b", "a"), ("d", "a")], [("b", "a"), ("b", "a")]):
            self.assert_judged(False, ROW, ["b", "d"], (0, ("a", "c")), pairs)
        self.assert_judged(False, ["a", "b", "c"], ["b"], (1, ("c",)), [("b", "b")])

    def test_wrong_pairs(self):
        wrong = [
            ("c", "b"), ("b", "a"), ("a", "b"), ("a", "c"), ("c", "a"), ("b", "b"), ("c", "c"), ("b", "x"), ("x", "c"),
            ("x", "y"), ("", "c"), ("b", ""),
        ]
        for pair in wrong:
            self.assert_judged(False, ["a", "b", "c"], ["b"], (1, ("c",)), [pair])
        # of two things to come, of none, the wrong way about
        for pair in [("b", "d"), ("d", "b"), ("a", "c"), ("a", "b"), ("c", "d"), ("x", "c"), ("d", "x")]:
            self.assert_judged(False, ROW, ["b", "d"], (0, ("a", "c")), [("b", "a"), pair])

    def test_all_there_is_of_short_rows(self):
        for row in (["a"], ["b", "a"], ["c", "a", "b"]):
            names = row + ["x"]
            marks = [order for some in some_of(names) for order in permutations(some)] + [("a", "a"), ("a", "b", "b")]
            pairs = [[]] + [[pair] for pair in product(names, names)]
            for coming in some_of(row):
                for slip in product(range(-1, len(row) + 2), marks):
                    for some in pairs if len(slip[1]) < 2 else pairs[:1] + pairs[-3:]:
                        self.assertIs(slip_judged(row, coming, slip, some), slow_judged(row, coming, slip, some))

    def test_drawn_ones(self):
        right, wrong = 0, 0
        for seed in range(4000):
            draw = drawn(seed)
            row = draw.sample(NAMES, draw.randint(2, 6))
            coming = draw.sample(row, draw.randint(1, len(row)))
            slip, pairs = least_slip(row, coming)
            if draw.random() < 0.5:
                gap = draw.randint(0, len(row))
                slip = (gap, marks_for(row, gap, coming))
            if draw.random() < 0.5 and pairs:
                ones, others = [pair[0] for pair in pairs], [pair[1] for pair in pairs]
                draw.shuffle(ones)
                pairs = list(zip(ones, others))
            if draw.random() < 0.3 and pairs:
                pairs[draw.randrange(len(pairs))] = tuple(draw.sample(row, 2))
            answer = slow_judged(row, coming, slip, pairs)
            self.assertIs(slip_judged(row, coming, slip, pairs), answer)
            right, wrong = right + answer, wrong + (not answer)
        self.assertGreater(min(right, wrong), 500)


class ByOneAtMostTest(SlipsCase):
    def assert_near(self, one, other):
        self.assertLessEqual(abs(one - other), 1)

    def test_put_take_move_of_short_rows(self):
        for row in SHORT[:6]:
            deeds = [deed for deed in all_deeds(row, row + ["x"]) if deed[0] != "turn" and refusal_of(row, deed) is None]
            for coming in some_of(row):
                marks = least_marks(row, coming)
                for deed in deeds:
                    behind = done(row, deed)
                    still = [name for name in coming if name in behind]
                    self.assert_near(least_marks(behind, still), marks)
                    if deed[0] == "put":
                        self.assert_near(least_marks(behind, still + ["x"]), marks)

    def test_one_more_or_less_to_be_shown(self):
        for row in SHORT:
            for coming in some_of(row):
                for name in coming:
                    less = [other for other in coming if other != name]
                    self.assert_near(least_marks(row, less), least_marks(row, coming))

    def test_in_runs_of_loops(self):
        for seed in range(60):
            draw = drawn(seed)
            row = draw.sample(NAMES if seed % 3 else FORTY, draw.randint(4, 10))
            loop = begun(row, draw.choice(RULES))
            self.assertEqual(least_marks(row, loop[2]), 0)
            for turn in range(40):
                marks = least_marks(row, loop[2])
                deed = drawn_deed(draw, row)
                if draw.random() < 0.4:
                    loop = step(row, loop)[1]
                    self.assert_near(least_marks(row, loop[2]), marks)
                else:
                    loop = led(row, loop, deed)
                    row = done(row, deed)
                    if deed[0] != "turn":
                        self.assert_near(least_marks(row, loop[2]), marks)

    def test_ahead_without_moves_and_turns_needs_none(self):
        for seed in range(60):
            draw = drawn(seed)
            row = draw.sample(NAMES, draw.randint(0, 8))
            loop = begun(row, "ahead")
            for turn in range(40):
                deed = drawn_deed(draw, row, ("put", "take"))
                if draw.random() < 0.4:
                    loop = step(row, loop)[1]
                else:
                    loop = led(row, loop, deed)
                    row = done(row, deed)
                self.assertEqual(least_marks(row, loop[2]), 0)
                self.assertEqual(sorted(shown(row, (loop[1], ()))), list(loop[2]))
                self.assertIs(slip_judged(row, list(loop[2]), (loop[1], ()), []), True)
