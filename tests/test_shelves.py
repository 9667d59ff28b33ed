import unittest
from fractions import Fraction

from stirround.shelves import is_behind, is_mark, mark_of, turned, walked
from tests.model import drawn

MOST = 10 ** 9
LONG = [10 ** 59, 10 ** 60 - 1, 3 ** 125, 2 ** 199, 2 ** 199 - 1]
ALL_MARKS = [(0, 0), (0, 1)] + [(m, j) for m in range(1, 9) for j in range(1, 2 ** m, 2)]


def slow_turned(n, m):
    bits = format(n, "b").rjust(m, "0")[::-1][:m]
    return int("0" + bits, 2)


def slow_behind(mark):
    """What is behind the mark, by remainders by 256: eight bits tell it of every number."""
    return {n for n in range(256) if slow_turned(n, mark[0]) < mark[1]}


BEHIND = {mark: slow_behind(mark) for mark in ALL_MARKS}
SIZE = {mark: Fraction(mark[1], 2 ** mark[0]) for mark in ALL_MARKS}


def has_whole_shelves(k, mark):
    others = set(range(256)) - BEHIND[mark]
    return not {n % 2 ** k for n in BEHIND[mark]} & {n % 2 ** k for n in others}


# For each k the marks behind which just whole shelves lie, by their size.
WHOLE = {k: sorted((mark for mark in ALL_MARKS if has_whole_shelves(k, mark)), key=SIZE.get) for k in range(9)}


def slow_walked(k, numbers, mark):
    greater = [other for other in WHOLE[k] if SIZE[other] > SIZE[mark]]
    if not greater:
        return ([], (0, 1))
    told = [n for n in numbers if n % 256 in BEHIND[greater[0]] - BEHIND[mark]]
    return (sorted(told), greater[0])


class TurnedTest(unittest.TestCase):
    def test_told_ones(self):
        self.assertEqual([turned(n, 3) for n in (1, 6, 9)], [4, 3, 4])
        self.assertEqual([turned(n, 3) for n in range(8)], [0, 4, 2, 6, 1, 5, 3, 7])

    def test_each_m(self):
        for m in range(9):
            for n in list(range(600)) + [MOST - 1, MOST, 123456789] + LONG:
                self.assertEqual(turned(n, m), slow_turned(n, m))
                self.assertIs(type(turned(n, m)), int)

    def test_turned_about_twice(self):
        for m in range(9):
            for n in list(range(600)) + LONG:
                self.assertEqual(turned(turned(n, m), m), n % 2 ** m)

    def test_by_no_bits(self):
        for n in [0, 1, 7] + LONG:
            self.assertEqual(turned(n, 0), 0)


class MarksTest(unittest.TestCase):
    def test_is_mark(self):
        self.assertEqual(len(set(ALL_MARKS)), 257)
        for m in range(-3, 12):
            for j in range(-5, 2 ** max(m, 0) + 5):
                self.assertIs(is_mark((m, j)), (m, j) in SIZE, (m, j))

    def test_is_mark_of_long_numbers(self):
        for m in range(-1, 10):
            for j in LONG + [-n for n in LONG] + [10 ** 59 + 1]:
                self.assertIs(is_mark((m, j)), False)
        for m in LONG + [-n for n in LONG]:
            for j in (0, 1, 3, -1) + tuple(LONG):
                self.assertIs(is_mark((m, j)), False)

    def test_mark_of(self):
        for m in range(9):
            for j in range(2 ** m + 1):
                mark = mark_of(m, j)
                self.assertIs(type(mark), tuple)
                self.assertIn(mark, SIZE)
                self.assertEqual(BEHIND[mark], slow_behind((m, j)))
                self.assertEqual(SIZE[mark], Fraction(j, 2 ** m))

    def test_mark_of_a_mark(self):
        for mark in ALL_MARKS:
            self.assertEqual(mark_of(*mark), mark)

    def test_ends(self):
        for m in range(9):
            self.assertEqual(mark_of(m, 0), (0, 0))
            self.assertEqual(mark_of(m, 2 ** m), (0, 1))
        self.assertEqual(mark_of(3, 6), (2, 3))
        self.assertEqual(mark_of(8, 128), (1, 1))

    def test_is_behind(self):
        for mark in ALL_MARKS:
            for n in list(range(260))[::1 if mark[0] < 5 else 7] + [MOST - 1, 10 ** 59, 3 ** 125]:
                self.assertIs(is_behind(mark, n), n % 256 in BEHIND[mark])

    def test_nothing_and_all_behind(self):
        for n in [0, 1, 255, 256] + LONG:
            self.assertIs(is_behind((0, 0), n), False)
            self.assertIs(is_behind((0, 1), n), True)


class WalkedTest(unittest.TestCase):
    def assert_walked(self, k, numbers, mark):
        kept = tuple(numbers)
        told = walked(k, numbers, mark)
        self.assertEqual([type(part) for part in (told,) + told], [tuple, list, tuple])
        self.assertEqual(told, slow_walked(k, numbers, mark), (k, numbers, mark))
        self.assertLessEqual(len({n % 2 ** k for n in told[0]}), 1)
        self.assertEqual(numbers, kept)
        return told

    def test_each_k_and_mark(self):
        for k in range(9):
            for place, mark in enumerate(ALL_MARKS):
                draw = drawn(1000 * k + place)
                numbers = sorted({draw.randrange(MOST) for number in range(30)} | set(draw.sample(range(300), 30)))
                self.assert_walked(k, tuple(numbers), mark)

    def test_all_remainders(self):
        for k in range(9):
            for mark in ALL_MARKS[::3]:
                numbers = tuple(range(256))
                told, new = walked(k, numbers, mark)
                self.assertEqual((told, new), slow_walked(k, numbers, mark))

    def test_over(self):
        for k in range(9):
            for numbers in ((), (0,), (1, 5, 9, MOST - 1)):
                self.assertEqual(self.assert_walked(k, numbers, (0, 1)), ([], (0, 1)))

    def test_one_shelf(self):
        self.assertEqual(self.assert_walked(0, (3, 4, 7), (0, 0)), ([3, 4, 7], (0, 1)))
        self.assertEqual(self.assert_walked(1, (3, 4, 7), (0, 0)), ([4], (1, 1)))
        self.assertEqual(self.assert_walked(1, (3, 4, 7), (1, 1)), ([3, 7], (0, 1)))
        self.assertEqual(self.assert_walked(2, (3, 4, 7, 9), (1, 1)), ([9], (2, 3)))
        self.assertEqual(self.assert_walked(2, (), (0, 0)), ([], (2, 1)))

    def test_what_is_left_of_a_shelf(self):
        self.assertEqual(self.assert_walked(0, (0, 1, 2, 3), (2, 1)), ([1, 2, 3], (0, 1)))
        self.assertEqual(self.assert_walked(1, (0, 1, 2, 3), (2, 1)), ([2], (1, 1)))
        self.assertEqual(self.assert_walked(0, (0, 1, 2, 3), (1, 1)), ([1, 3], (0, 1)))

    def test_new_each_time(self):
        for mark in ((0, 0), (1, 1), (0, 1)):
            told = walked(1, (1, 2, 3), mark)
            kept = list(told[0])
            told[0].append(9)
            self.assertEqual(walked(1, (1, 2, 3), mark)[0], kept)

    def test_whole_walks_without_changes(self):
        for k in range(9):
            draw = drawn(k)
            numbers = tuple(sorted({draw.randrange(MOST) for number in range(60)}))
            mark, told, steps = (0, 0), [], 0
            while mark != (0, 1):
                some, mark = self.assert_walked(k, numbers, mark)
                told.extend(some)
                steps += 1
            self.assertEqual(steps, 2 ** k)
            self.assertEqual(sorted(told), list(numbers))
            shelves = [n % 2 ** k for n in told]
            self.assertEqual(shelves, sorted(shelves, key=lambda shelf: slow_turned(shelf, k)))

    def test_whole_walks_with_changes(self):
        for seed in range(150):
            draw = drawn(seed)
            most = draw.randint(0, 8)
            numbers = {draw.randrange(2000) for number in range(draw.randint(0, 40))}
            staying = set(draw.sample(sorted(numbers), len(numbers) // 2))
            mark, told, due, steps = (0, 0), [], set(), 0
            while mark != (0, 1):
                for n in draw.sample(sorted(numbers - staying), min(len(numbers - staying), draw.randint(0, 2))):
                    numbers.discard(n)
                    due.discard(n)
                for turn in range(draw.randint(0, 2)):
                    n = draw.randrange(2000)
                    if n not in numbers and len(numbers) < 60:
                        numbers.add(n)
                        # put in to stay: told just where it isn't behind the mark now
                        if n not in told:
                            staying.add(n)
                            due |= {n} if n % 256 not in BEHIND[mark] else set()
                # one that was told comes back: it is not told again
                numbers |= set(draw.sample(told, 1)) if told and len(numbers) < 60 else set()
                due |= {n for n in staying if steps == 0}
                some, mark = self.assert_walked(draw.randint(0, most), tuple(sorted(numbers)), mark)
                self.assertLessEqual(set(some), numbers)
                told.extend(some)
                steps += 1
            self.assertEqual(len(told), len(set(told)))
            self.assertEqual(set(told) & staying, due)
            self.assertLessEqual(steps, 2 ** most)
