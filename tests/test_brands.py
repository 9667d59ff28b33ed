from stirround.brands import brands, parting_loop
from stirround.errors import Gone, NoLoop, TooMany
from tests.model import FORTY, NAMES, NO_LOOPS_OF_ABC, RefusalCase, drawn, drawn_loops

ROW = ["b", "d", "a", "c"]
ABC = ["a", "b", "c"]
ALL = ("all", 0, ("a", "b", "c"))


def alike(loops, one, other):
    return all((one in loop[2]) == (other in loop[2]) for loop in loops)


def slow_brands(row, loops):
    """By pairs of things: each is numbered like the first thing that it is like."""
    first_like = [next(other for other in row if alike(loops, one, other)) for one in row]
    firsts = [one for one, other in zip(row, first_like) if one == other]
    numbers = [firsts.index(first) for first in first_like]
    keys = []
    for loop in loops:
        key = [number for number, first in enumerate(firsts) if first in loop[2]]
        keys.append(key)
    return (numbers, keys)


def slow_parting(loops, one, other):
    numbers = [number for number, loop in enumerate(loops) if len({one, other} & set(loop[2])) == 1]
    return min(numbers) if numbers and one != other else None


def tried():
    """Rows and loops: none, one, few and twelve of them; short and long rows."""
    for row in ([], ["a"], ROW, FORTY):
        for many in (0, 1, 12):
            yield row, [("all", 0, tuple(sorted(row)))] * many
            yield row, [("none", len(row), ())] * many
    for seed in range(150):
        draw = drawn(seed)
        row = draw.sample(NAMES, draw.randint(0, 9)) if seed % 5 else draw.sample(FORTY, 40)
        yield row, drawn_loops(draw, row, draw.choice([0, 1, 2, 3, 4, 12]))


class BrandsTest(RefusalCase):
    def test_ordinary(self):
        self.assertEqual(brands(ROW, []), ([0, 0, 0, 0], []))
        self.assertEqual(brands([], []), ([], []))
        self.assertEqual(brands([], [("all", 0, ()), ("none", 0, ())]), ([], [[], []]))
        self.assertEqual(brands(ROW, [("all", 4, ())]), ([0, 0, 0, 0], [[]]))
        self.assertEqual(brands(ROW, [("all", 2, ("a", "b", "c", "d"))]), ([0, 0, 0, 0], [[0]]))
        self.assertEqual(brands(ROW, [("all", 2, ("a", "d"))]), ([0, 1, 1, 0], [[1]]))
        self.assertEqual(brands(ROW, [("all", 2, ("b", "c"))]), ([0, 1, 1, 0], [[0]]))
        loops = [("all", 2, ("a", "d")), ("none", 1, ("a", "b"))]
        self.assertEqual(brands(ROW, loops), ([0, 1, 2, 3], [[1, 2], [0, 2]]))

    def test_rules_and_gaps_do_not_matter(self):
        for rule in ("none", "ahead", "all"):
            for gap in range(5):
                self.assertEqual(brands(ROW, [(rule, gap, ("a", "b"))]), ([0, 1, 0, 1], [[0]]))

    def test_against_the_slow_reckoning(self):
        for row, loops in tried():
            for handed_row in (list(row), tuple(row)):
                for handed in (list(loops), tuple(loops)):
                    told = brands(handed_row, handed)
                    self.assertEqual(told, slow_brands(row, loops))
                    self.assertEqual((type(told), type(told[0]), type(told[1])), (tuple, list, list))
                    self.assertEqual([type(key) for key in told[1]], [list] * len(loops))
                    self.assertEqual((list(handed_row), list(handed)), (list(row), list(loops)))

    def test_what_is_told_of_them(self):
        """Keys tell just the things to come; two unlike numbers are parted, so fewer do not do."""
        for row, loops in tried():
            numbers, keys = brands(row, loops)
            for loop, key in zip(loops, keys):
                told = [name for name, number in zip(row, numbers) if number in key]
                self.assertEqual(sorted(told), list(loop[2]))
                self.assertEqual(key, sorted(set(key)))
            for one, number in zip(row, numbers):
                for other, another in zip(row, numbers):
                    self.assertEqual(number == another, parting_loop(row, loops, one, other) is None)

    def test_new_each_time(self):
        for row, loops in ((ABC, [ALL, ALL]), ([], [("all", 0, ())])):
            told = brands(row, loops)
            kept = (list(told[0]), [list(key) for key in told[1]])
            told[1][0].append(7)
            self.assertEqual(told[1][1:], kept[1][1:])
            told[0].append(7)
            told[1].append([])
            self.assertEqual(brands(row, loops), kept)

    def test_refused(self):
        for kind in (list, tuple):
            for thing in NO_LOOPS_OF_ABC:
                for loops in ([thing], [ALL] * 11 + [thing], [thing] * 12, [ALL, thing, ALL]):
                    self.assert_refused(NoLoop, None, brands, kind(ABC), kind(loops))
            for many in (13, 14, 40):
                self.assert_refused(TooMany, None, brands, ABC, kind([ALL] * many))
                self.assert_refused(TooMany, None, brands, ABC, kind([("no", 9, ("z",))] * many))
        self.assertEqual(brands(ABC, [ALL] * 12), ([0, 0, 0], [[0]] * 12))


class PartingLoopTest(RefusalCase):
    def test_ordinary(self):
        loops = [("all", 0, ("a", "d")), ("none", 1, ("a", "b")), ("all", 4, ("a", "b", "c"))]
        self.assertEqual(parting_loop(ROW, loops, "a", "b"), 0)
        self.assertEqual(parting_loop(ROW, loops, "b", "a"), 0)
        self.assertEqual(parting_loop(ROW, loops, "a", "d"), 1)
        self.assertEqual(parting_loop(ROW, loops, "d", "c"), 0)
        self.assertEqual(parting_loop(ROW, loops[1:], "d", "c"), 1)
        self.assertEqual(parting_loop(ROW, loops, "c", "b"), 1)
        self.assertIsNone(parting_loop(ROW, loops[:1], "c", "b"))
        self.assertIsNone(parting_loop(ROW, [], "a", "b"))

    def test_a_thing_and_itself(self):
        for row, loops in tried():
            for name in row:
                self.assertIsNone(parting_loop(row, loops, name, name))

    def test_the_least_number(self):
        for row, loops in tried():
            for one in row[:12]:
                for other in row[-12:]:
                    told = parting_loop(row, loops, one, other)
                    self.assertEqual(told, slow_parting(loops, one, other))
                    self.assertIn(type(told), (int, type(None)))
                    self.assertEqual(parting_loop(tuple(row), tuple(loops), one, other), told)
        loops = [ALL] * 11 + [("all", 0, ("b",))]
        self.assertEqual(parting_loop(ABC, loops, "c", "b"), 11)

    def test_refused_in_order(self):
        for kind in (list, tuple):
            for many in (13, 20):
                for thing in (ALL, ("no", 0, ())):
                    for one, other in (("a", "b"), ("x", "a"), ("a", "x"), ("x", "y")):
                        self.assert_refused(TooMany, None, parting_loop, ABC, kind([thing] * many), one, other)
            for thing in NO_LOOPS_OF_ABC:
                for one, other in (("a", "b"), ("x", "a"), ("a", "x"), ("x", "y")):
                    self.assert_refused(NoLoop, None, parting_loop, ABC, kind([thing]), one, other)
                    self.assert_refused(NoLoop, None, parting_loop, ABC, kind([("all", 0, ("a",)), thing]), one, other)
            for loops in ([], [ALL] * 12, [("all", 0, ("a",))]):
                self.assert_refused(Gone, "x", parting_loop, kind(ABC), loops, "x", "a")
                self.assert_refused(Gone, "x", parting_loop, kind(ABC), loops, "a", "x")
                self.assert_refused(Gone, "x", parting_loop, kind(ABC), loops, "x", "y")
                self.assert_refused(Gone, "y", parting_loop, kind(ABC), loops, "y", "x")
                self.assert_refused(Gone, "", parting_loop, kind(ABC), loops, "", "")
        self.assert_refused(Gone, "a", parting_loop, [], [], "a", "a")
