from itertools import combinations

from stirround.deeds import done
from stirround.errors import Full, Gone, NoLoop, NoName, NoPlace, NoRule, There
from stirround.loops import begun, is_loop, led, rest, step
from tests.model import FORTY, RULES, RefusalCase, World, all_deeds, refusal_of

ROW = ["d", "b", "a", "c"]
NO_RULES = ["", "None", "ALL", "all ", "ahea", "aheads", "any", "nonee", "n", "none\n"]
# Gaps, rules and things to come that no loop of ROW has.
NO_LOOPS = [(rule, 0, ("a",)) for rule in NO_RULES] + [
    ("all", -1, ()), ("all", 5, ()), ("none", -(10 ** 59), ("a",)), ("ahead", 10 ** 59, ("a",)),
    ("all", 0, ("e",)), ("all", 0, ("a", "e")), ("none", 2, ("", "a")), ("ahead", 4, ("A", "a")),
    ("all", 0, ("a", "a")), ("all", 0, ("a", "b", "b")), ("none", 1, ("c", "c", "d")),
    ("all", 0, ("b", "a")), ("ahead", 0, ("d", "b", "a", "c")), ("none", 3, ("a", "c", "b")),
    ("all", 0, ("a", "b", "c", "d", "e")), ("all", 0, ("a", "a", "b", "c", "d")),
]


def all_loops(row):
    """Every loop of a short row."""
    loops = []
    for rule in RULES:
        for gap in range(len(row) + 1):
            for many in range(len(row) + 1):
                for coming in combinations(sorted(row), many):
                    loops.append((rule, gap, coming))
    return loops


def modelled(row, loop):
    world = World(row)
    told = world.begin(loop[0])
    world.set_at(told, loop[1], loop[2])
    return (world, told)


class IsLoopTest(RefusalCase):
    def test_loops(self):
        for row in ([], ["b"], ["c", "a", "b"], ROW):
            for loop in all_loops(row):
                self.assertIs(is_loop(row, loop), True)
                self.assertIs(is_loop(tuple(row), loop), True)
        for gap in (0, 40):
            self.assertIs(is_loop(FORTY, ("all", gap, tuple(sorted(FORTY)))), True)
            self.assertIs(is_loop(FORTY, ("none", gap, ())), True)

    def test_no_loops(self):
        for thing in NO_LOOPS:
            with self.subTest(thing):
                self.assertIs(is_loop(ROW, thing), False)
                self.assertIs(is_loop(tuple(ROW), thing), False)
        self.assertIs(is_loop([], ("all", 1, ())), False)
        self.assertIs(is_loop([], ("all", 0, ("a",))), False)
        self.assertIs(is_loop(FORTY, ("all", 41, ())), False)

    def test_each_order_but_the_sorted_one_is_none(self):
        sorted_all = tuple(sorted(ROW))
        for one in range(4):
            for other in range(one):
                coming = list(sorted_all)
                coming[one] = sorted_all[other]
                coming[other] = sorted_all[one]
                self.assertIs(is_loop(ROW, ("all", 0, tuple(coming))), False)

    def test_a_beginning_stands_ahead_of_the_longer_one(self):
        row = ["b", "ab", "a", "aba"]
        self.assertIs(is_loop(row, ("all", 0, ("a", "ab", "aba", "b"))), True)
        self.assertIs(is_loop(row, ("all", 0, ("a", "b", "ab", "aba"))), False)
        self.assertIs(is_loop(row, ("all", 0, ("ab", "a"))), False)


class BegunTest(RefusalCase):
    def test_begun(self):
        for rule in RULES:
            self.assertEqual(begun([], rule), (rule, 0, ()))
            self.assertEqual(begun(["b", "ab", "a"], rule), (rule, 0, ("a", "ab", "b")))
            for row in (list(FORTY[::-1]), tuple(FORTY[::-1])):
                kept = type(row)(row)
                loop = begun(row, rule)
                self.assertEqual(loop, (rule, 0, tuple(sorted(FORTY))))
                self.assertIs(type(loop), tuple)
                self.assertIs(type(loop[2]), tuple)
                self.assertEqual(row, kept)

    def test_the_row_may_change_behind_it(self):
        row = ["b", "a"]
        loop = begun(row, "all")
        row.append("c")
        self.assertEqual(loop, ("all", 0, ("a", "b")))

    def test_no_rule(self):
        for rule in NO_RULES:
            with self.subTest(rule):
                self.assert_refused(NoRule, rule, begun, ROW, rule)
                self.assert_refused(NoRule, rule, begun, (), rule)


class LedTest(RefusalCase):
    def test_put(self):
        for rule, behind, ahead in (("none", 0, 0), ("ahead", 0, 1), ("all", 1, 1)):
            for at in range(5):
                joins = ahead if at >= 2 else behind
                loop = led(ROW, (rule, 2, ("b", "d")), ("put", "c" * 2, at))
                coming = ("b", "cc", "d") if joins else ("b", "d")
                self.assertEqual(loop, (rule, 3 if at < 2 else 2, coming), (rule, at))

    def test_put_into_the_empty_row(self):
        self.assertEqual(led([], ("none", 0, ()), ("put", "x", 0)), ("none", 0, ()))
        self.assertEqual(led([], ("ahead", 0, ()), ("put", "x", 0)), ("ahead", 0, ("x",)))
        self.assertEqual(led([], ("all", 0, ()), ("put", "x", 0)), ("all", 0, ("x",)))

    def test_put_at_the_end(self):
        self.assertEqual(led(ROW, ("ahead", 4, ()), ("put", "x", 4)), ("ahead", 4, ("x",)))
        self.assertEqual(led(ROW, ("ahead", 4, ()), ("put", "x", 3)), ("ahead", 5, ()))

    def test_take(self):
        for rule in RULES:
            self.assertEqual(led(ROW, (rule, 2, ("a", "b", "d")), ("take", "b")), (rule, 1, ("a", "d")))
            self.assertEqual(led(ROW, (rule, 2, ("a", "b", "d")), ("take", "a")), (rule, 2, ("b", "d")))
            self.assertEqual(led(ROW, (rule, 2, ("a", "d")), ("take", "b")), (rule, 1, ("a", "d")))
            self.assertEqual(led(ROW, (rule, 2, ("a", "d")), ("take", "c")), (rule, 2, ("a", "d")))

    def test_move_and_turn_leave_what_is_to_come(self):
        for rule in RULES:
            self.assertEqual(led(ROW, (rule, 2, ("a", "d")), ("move", "a", 0)), (rule, 3, ("a", "d")))
            self.assertEqual(led(ROW, (rule, 2, ("a", "d")), ("move", "b", 3)), (rule, 1, ("a", "d")))
            self.assertEqual(led(ROW, (rule, 2, ("a", "d")), ("move", "d", 0)), (rule, 2, ("a", "d")))
            self.assertEqual(led(ROW, (rule, 2, ("a", "d")), ("turn", 0, 4)), (rule, 2, ("a", "d")))

    def test_what_comes_back_is_another_thing(self):
        for rule, coming in (("none", ()), ("ahead", ("d",)), ("all", ("d",))):
            loop = (rule, 4, ("d",))
            loop = led(ROW, loop, ("take", "d"))
            self.assertEqual(loop, (rule, 3, ()))
            loop = led(done(ROW, ("take", "d")), loop, ("put", "d", 3))
            self.assertEqual(loop, (rule, 3, coming))

    def test_every_loop_and_deed_against_the_model(self):
        for row in ([], ["a"], ["b", "a"], ["c", "a", "b"]):
            for deed in all_deeds(row, ["a", "b", "ab", "x"]):
                if refusal_of(row, deed) is not None:
                    continue
                for loop in all_loops(row):
                    world, told = modelled(row, loop)
                    world.act(deed)
                    for handed in (list(row), tuple(row)):
                        self.assertEqual(led(handed, loop, deed), told.as_loop(), (row, loop, deed))
                        self.assertEqual(list(handed), row)

    def test_refused_as_the_deed(self):
        loop = begun(ROW, "all")
        self.assert_refused(NoName, "X", led, ROW, loop, ("put", "X", 9))
        self.assert_refused(There, "a", led, ROW, loop, ("put", "a", 9))
        self.assert_refused(NoPlace, 9, led, ROW, loop, ("put", "x", 9))
        self.assert_refused(Full, None, led, FORTY, begun(FORTY, "none"), ("put", "x", 0))
        self.assert_refused(Gone, "x", led, ROW, loop, ("take", "x"))
        self.assert_refused(Gone, "x", led, ROW, loop, ("move", "x", 9))
        self.assert_refused(NoPlace, 4, led, ROW, loop, ("move", "a", 4))
        self.assert_refused(NoPlace, -1, led, ROW, loop, ("turn", -1, 9))
        self.assert_refused(NoPlace, 9, led, ROW, loop, ("turn", 1, 9))
        self.assertEqual(loop, ("all", 0, ("a", "b", "c", "d")))

    def test_no_loop_ahead_of_all_else(self):
        deeds = [
            ("put", "x", 0), ("put", "X", 9), ("put", "a", 9), ("put", "x", 9), ("take", "b"), ("take", "x"),
            ("move", "a", 0), ("move", "x", 9), ("move", "a", 9), ("turn", 0, 4), ("turn", 9, 9), ("turn", 3, 1),
        ]
        for thing in NO_LOOPS:
            for deed in deeds:
                self.assert_refused(NoLoop, None, led, ROW, thing, deed)
                self.assert_refused(NoLoop, None, led, tuple(ROW), thing, deed)
        self.assert_refused(NoLoop, None, led, FORTY, ("no", 0, ()), ("put", "x", 0))


class StepTest(RefusalCase):
    def test_ordinary(self):
        for rule in RULES:
            self.assertEqual(step(ROW, begun(ROW, rule)), ("d", (rule, 1, ("a", "b", "c"))))
            self.assertEqual(step(ROW, (rule, 1, ("a", "c"))), ("a", (rule, 3, ("c",))))
            self.assertEqual(step(ROW, (rule, 2, ("a", "b", "c"))), ("a", (rule, 3, ("b", "c"))))
            self.assertEqual(step(ROW, (rule, 3, ("c",))), ("c", (rule, 4, ())))

    def test_goes_round(self):
        for rule in RULES:
            self.assertEqual(step(ROW, (rule, 4, ("a", "b"))), ("b", (rule, 2, ("a",))))
            self.assertEqual(step(ROW, (rule, 3, ("b", "d"))), ("d", (rule, 1, ("b",))))
            self.assertEqual(step(ROW, (rule, 1, ("d",))), ("d", (rule, 1, ())))

    def test_nothing_to_come(self):
        for rule in RULES:
            for gap in range(5):
                self.assertEqual(step(ROW, (rule, gap, ())), (None, (rule, gap, ())))
            self.assertEqual(step((), (rule, 0, ())), (None, (rule, 0, ())))

    def test_every_loop_against_the_model(self):
        for row in ([], ["a"], ["b", "a"], ["c", "a", "b"], ROW):
            for loop in all_loops(row):
                world, told = modelled(row, loop)
                thing = told.step()
                answer = (world.names.get(thing), told.as_loop())
                for handed in (list(row), tuple(row)):
                    self.assertEqual(step(handed, loop), answer, (row, loop))
                    self.assertEqual(list(handed), row)
                self.assertIs(type(step(row, loop)), tuple)

    def test_no_loop(self):
        for thing in NO_LOOPS:
            self.assert_refused(NoLoop, None, step, ROW, thing)
            self.assert_refused(NoLoop, None, step, tuple(ROW), thing)


class RestTest(RefusalCase):
    def test_ordinary(self):
        for rule in RULES:
            self.assertEqual(rest(ROW, begun(ROW, rule)), ROW)
            self.assertEqual(rest(ROW, (rule, 2, ("a", "b", "c", "d"))), ["a", "c", "d", "b"])
            self.assertEqual(rest(ROW, (rule, 4, ("b", "d"))), ["d", "b"])
            self.assertEqual(rest(ROW, (rule, 1, ())), [])
            self.assertEqual(rest((), (rule, 0, ())), [])
            self.assertEqual(rest(tuple(FORTY), (rule, 13, tuple(sorted(FORTY)))), FORTY[13:] + FORTY[:13])

    def test_is_what_steps_tell(self):
        for row in ([], ["a"], ["b", "a"], ["c", "a", "b"], ROW):
            for loop in all_loops(row):
                told = []
                name, now = step(row, loop)
                while name is not None:
                    told.append(name)
                    name, now = step(row, now)
                for handed in (list(row), tuple(row)):
                    self.assertEqual(rest(handed, loop), told, (row, loop))
                    self.assertEqual(list(handed), row)
                    self.assertIs(type(rest(handed, loop)), list)

    def test_the_told_list_is_new(self):
        for loop in (begun(ROW, "all"), ("all", 0, ())):
            row = list(ROW)
            told = rest(row, loop)
            kept = list(told)
            told.append("more")
            self.assertEqual(rest(row, loop), kept)
            self.assertEqual(row, ROW)

    def test_no_loop(self):
        for thing in NO_LOOPS:
            self.assert_refused(NoLoop, None, rest, ROW, thing)
            self.assert_refused(NoLoop, None, rest, tuple(ROW), thing)
