from itertools import combinations, permutations, product

from stirround.errors import NoLoop, TooMany
from stirround.lines import lines_judged, lines_of
from tests.model import FORTY, NAMES, NO_LOOPS_OF_ABC, RULES, RefusalCase, drawn, drawn_loops, steps_of

ABC = ["a", "b", "c"]
ROW = ["b", "d", "a", "c"]
MOST_STEPS = 9999


def loops_with(comings):
    return [(RULES[number % 3], 0, tuple(sorted(coming))) for number, coming in enumerate(comings)]


def fit(one, other):
    return set(one[2]) <= set(other[2]) or set(other[2]) <= set(one[2])


def stand_apart(loops, numbers):
    return not any(fit(loops[one], loops[other]) for one, other in combinations(numbers, 2))


def most_apart(loops):
    """How many loops of which no two fit there are at most, by trying all."""
    numbers = range(len(loops))
    found = [some for many in range(len(loops) + 1) for some in combinations(numbers, many) if stand_apart(loops, some)]
    return max(len(some) for some in found)


def fewest_lines(loops):
    """How few lines do, by handing each loop to each line that it can stand in, one behind the other."""
    def handed_out(number, lines):
        if number == len(loops):
            return len(lines)
        answers = [handed_out(number + 1, lines + [[loops[number]]])]
        for line in range(len(lines)):
            if all(fit(loops[number], other) for other in lines[line]):
                more = [other + [loops[number]] if other is lines[line] else other for other in lines]
                answers.append(handed_out(number + 1, more))
        return min(answers)
    return handed_out(0, [])


def slow_judged(row, loops, lines, seats, apart):
    """Point 17 word by word; that lines are few is seen by as many loops apart."""
    if any(len(line) != len(row) or set(line) != set(row) for line in lines) or len(seats) != len(loops):
        return False
    for (rule, gap, coming), (line, place) in zip(loops, seats):
        if line not in range(len(lines)) or place != len(row) - len(coming):
            return False
        if set(lines[line]) - set(lines[line][:place]) != set(coming):
            return False
    if any(one >= other for one, other in zip(apart, apart[1:])) or any(n not in range(len(loops)) for n in apart):
        return False
    return len(apart) == len(lines) and stand_apart(loops, apart)


def twelve_on_forty():
    """Twelve loops on forty things, of many forms."""
    apart = loops_with(FORTY[number:number + 29] for number in range(12))
    chain = loops_with(FORTY[3 * number:] for number in range(12))
    two_chains = loops_with([FORTY[:number + 3] for number in range(6)] + [FORTY[number + 3:] for number in range(6)])
    ladder = loops_with([FORTY[number:number + 1] for number in range(6)] +
                        [FORTY[:number] + FORTY[number + 1:] for number in range(6)])
    halves = loops_with([FORTY[number:number + 2] for number in range(6)] +
                        [FORTY[:number + 2] for number in range(6)])
    return [apart, chain, chain[::-1], loops_with([FORTY] * 12), loops_with([[]] * 12), two_chains, ladder, ladder[::-1],
            halves, halves[::-1]] + [drawn_loops(drawn(seed), FORTY, 12) for seed in range(60)]


class LinesCase(RefusalCase):
    def assert_lines(self, row, loops, many=None):
        told = lines_of(list(row), list(loops))
        self.assertEqual([type(part) for part in (told,) + told], [tuple, list, list, list])
        self.assertEqual({type(line) for line in told[0]} | {list}, {list})
        self.assertEqual({type(seat) for seat in told[1]} | {tuple}, {tuple})
        self.assertEqual({type(number) for number in told[2]} | {int}, {int})
        self.assertTrue(slow_judged(row, loops, *told), (row, loops, told))
        self.assertIs(lines_judged(row, loops, *told), True)
        if many is not None:
            self.assertEqual(len(told[0]), many)
        for handed_row in (list(row), tuple(row)):
            for handed in (list(loops), tuple(loops)):
                self.assertEqual(lines_of(handed_row, handed), told)
                self.assertEqual((list(handed_row), list(handed)), (list(row), list(loops)))
        return told


class LinesOfTest(LinesCase):
    def test_of_no_loops(self):
        for row in ([], ABC, FORTY):
            self.assertEqual(self.assert_lines(row, []), ([], [], []))

    def test_of_one_loop(self):
        for row in ([], ["a"], ROW, FORTY):
            for coming in (row[:many] for many in range(len(row) + 1)):
                lines, seats, apart = self.assert_lines(row, loops_with([coming]), 1)
                self.assertEqual((seats, apart), ([(0, len(row) - len(coming))], [0]))

    def test_ordinary(self):
        self.assert_lines(ABC, loops_with(["a", "ab", "abc", ""]), 1)
        self.assert_lines(ABC, loops_with(["a", "b", "c"]), 3)
        self.assert_lines(ABC, loops_with(["ab", "bc", "a", "c"]), 2)
        self.assert_lines(ABC, loops_with(["ab", "bc", "b", "b", "abc"]), 2)
        self.assert_lines(ROW, loops_with(["a", "ab", "b", "ab", "cd", "abcd", ""]), 3)

    def test_loops_alike(self):
        for many in range(1, 13):
            for coming in ("", "b", "ac", "abc"):
                self.assert_lines(ABC, loops_with([coming] * many), 1)
            self.assert_lines(ABC, loops_with(["ab", "bc", "ac"][number % 3] for number in range(many)), min(many, 3))
        self.assert_lines([], loops_with([""] * 12), 1)

    def test_chains_in_any_order(self):
        for order in permutations(["", "a", "ab", "abc"]):
            self.assert_lines(ABC, loops_with(order), 1)
        for order in permutations(["a", "ab", "d", "cd", ""]):
            self.assert_lines(ROW, loops_with(order), 2)

    def test_others_must_give_way(self):
        """Pairs that are taken as they come must be taken apart again for a greatest pairing."""
        for order in permutations(["a", "b", "ab", "ac", "abd"]):
            loops = loops_with(order)
            self.assert_lines(ROW, loops, most_apart(loops))

    def test_no_two_fit(self):
        for many in range(1, 13):
            self.assert_lines(FORTY, loops_with(FORTY[number:number + 5] for number in range(many)), many)
            self.assert_lines(FORTY, loops_with([name] for name in FORTY[:many]), many)

    def test_all_loops_of_short_rows(self):
        some = ["", "a", "b", "c", "ab", "ac", "bc", "abc"]
        for many in range(5):
            for comings in product(some, repeat=many):
                loops = loops_with(comings)
                told = lines_of(ABC, loops)
                self.assertTrue(slow_judged(ABC, loops, *told), (loops, told))

    def test_as_few_as_by_trying_all(self):
        for seed in range(120):
            draw = drawn(seed)
            row = draw.sample(NAMES, draw.randint(0, 6))
            loops = drawn_loops(draw, row, draw.randint(0, 6))
            self.assert_lines(row, loops, fewest_lines(loops))
        for seed in range(12):
            loops = drawn_loops(drawn(seed), NAMES, 10)
            self.assert_lines(NAMES, loops, most_apart(loops))

    def test_drawn_ones(self):
        for seed in range(300):
            draw = drawn(seed)
            row = draw.sample(NAMES, draw.randint(0, 8)) if seed % 4 else draw.sample(FORTY, draw.randint(20, 40))
            self.assert_lines(row, drawn_loops(draw, row, draw.randint(0, 12)))

    def test_twelve_on_forty(self):
        for loops in twelve_on_forty():
            self.assert_lines(FORTY, loops)

    def test_steps(self):
        for loops in twelve_on_forty():
            self.assertLessEqual(steps_of(lines_of, FORTY, loops), MOST_STEPS)

    def test_new_each_time(self):
        loops = loops_with(["ab", "bc", "b"])
        told = lines_of(ABC, loops)
        kept = ([list(line) for line in told[0]], list(told[1]), list(told[2]))
        told[0][0].append("more")
        self.assertEqual(told[0][1:], kept[0][1:])
        for part in told:
            part.clear()
        self.assertEqual(lines_of(ABC, loops), kept)
        for loops in ([], loops_with([""])):
            row = []
            for part in lines_of(row, loops):
                part.append(["more"])
            for line in lines_of(row, loops)[0]:
                line.append("more")
            self.assertEqual(row, [])
            self.assert_lines(row, loops, len(loops))

    def test_refused(self):
        assert_refusals(self, lines_of)


def assert_refusals(case, call, *more):
    whole = ("all", 0, ("a", "b", "c"))
    for kind in (list, tuple):
        for thing in NO_LOOPS_OF_ABC:
            for loops in ([thing], [whole] * 11 + [thing], [thing] * 12, [whole, thing, whole]):
                case.assert_refused(NoLoop, None, call, kind(ABC), kind(loops), *more)
        for many in (13, 14, 30):
            case.assert_refused(TooMany, None, call, ABC, kind([whole] * many), *more)
            case.assert_refused(TooMany, None, call, ABC, kind([("no", 9, ("z",))] * many), *more)


class LinesJudgedTest(LinesCase):
    LOOPS = loops_with(["a", "ab", "c"])
    LINES = [["c", "b", "a"], ["a", "b", "c"]]
    SEATS = [(0, 2), (0, 1), (1, 2)]
    APART = [0, 2]

    def assert_judged(self, answer, lines=None, seats=None, apart=None, row=ABC, loops=None):
        loops = self.LOOPS if loops is None else loops
        lines = self.LINES if lines is None else lines
        seats = self.SEATS if seats is None else seats
        apart = self.APART if apart is None else apart
        self.assertIs(slow_judged(row, loops, lines, seats, apart), answer)
        kept = ([list(line) for line in lines], list(seats), list(apart))
        for handed_row in (list(row), tuple(row)):
            for handed in (list(loops), tuple(loops)):
                self.assertIs(lines_judged(handed_row, handed, lines, seats, apart), answer, (lines, seats, apart))
                self.assertEqual((lines, seats, apart), kept)

    def test_right_ones(self):
        self.assert_judged(True)
        self.assert_judged(True, apart=[1, 2])
        self.assert_judged(True, lines=[["c", "b", "a"], ["b", "a", "c"]])
        self.assert_judged(True, lines=self.LINES[::-1], seats=[(1, 2), (1, 1), (0, 2)])
        self.assert_judged(True, [], [], [], loops=[])
        self.assert_judged(True, [], [], [], row=[], loops=[])
        self.assert_judged(True, [[]], [(0, 0), (0, 0)], [1], row=[], loops=loops_with(["", ""]))
        self.assert_judged(True, [["a", "b", "c"]], [(0, 3)], [0], loops=loops_with([""]))
        both = loops_with(["a", "c", ""])
        for line in (0, 1):
            self.assert_judged(True, seats=[(0, 2), (1, 2), (line, 3)], apart=[0, 1], loops=both)

    def test_wrong_lines(self):
        first = ["c", "b", "a"]
        for line in (["b", "a"], ["c", "c", "b", "a"], ["c", "b", "a", "a"], ["x", "b", "a"], ["c", "b", "a", "x"],
                     ["x", "c", "b", "a"], [], ["b", "b", "a"], ["", "b", "a"], ["c", "a", "b"]):
            self.assert_judged(False, lines=[line, self.LINES[1]])
        self.assert_judged(False, lines=[first])
        self.assert_judged(False, lines=[])
        self.assert_judged(False, lines=[first, first])
        self.assert_judged(False, lines=self.LINES + [first])
        self.assert_judged(False, lines=self.LINES + [first], apart=[0, 1, 2])
        self.assert_judged(False, lines=self.LINES + [["a"]], apart=[0, 1, 2])
        self.assert_judged(False, [first], [], [], loops=[])
        self.assert_judged(False, [first, first], [(0, 2), (1, 2)], [0, 1], loops=loops_with(["a", "a"]))
        self.assert_judged(False, [["x"]], [(0, 1)], [0], row=[], loops=loops_with([""]))

    def test_lines_shorter_or_longer_with_seats_that_fit_them(self):
        self.assert_judged(False, [["b", "a"], ["a", "b", "c"]], [(0, 1), (0, 0), (1, 2)])
        self.assert_judged(False, [["x", "c", "b", "a"], ["a", "b", "c"]], [(0, 3), (0, 2), (1, 2)])

    def test_wrong_seats(self):
        for number in range(3):
            line, gap = self.SEATS[number]
            for seat in ((line, gap - 1), (line, gap + 1), (1 - line, gap), (line - 2, gap), (line + 2, gap),
                         (line, gap - 3), (line, 3), (line, 0), (10 ** 59, gap), (-10 ** 59, gap), (line, 10 ** 59)):
                seats = list(self.SEATS)
                seats[number] = seat
                self.assert_judged(False, seats=seats)
        self.assert_judged(False, seats=[])
        self.assert_judged(False, seats=self.SEATS[:2])
        self.assert_judged(False, seats=self.SEATS + [(0, 2)])
        self.assert_judged(False, [["a", "b", "c"]], [(0, 0)], [0], loops=loops_with([""]))
        self.assert_judged(False, [["a", "b", "c"]], [(0, 4)], [0], loops=loops_with([""]))
        self.assert_judged(False, [["a", "b", "c"]], [(0, 3)], [0], loops=loops_with(["abc"]))
        self.assert_judged(False, [], [(0, 3)], [], loops=[])
        self.assert_judged(False, [], [], [], loops=loops_with(["a"]))

    def test_wrong_apart(self):
        for apart in ([], [0], [2], [0, 1], [2, 0], [2, 1], [0, 0], [2, 2], [0, 2, 2], [0, 1, 2], [-1, 0], [-3, 2], [0, 3],
                      [0, -1], [1, 10 ** 59], [-10 ** 59, 2]):
            self.assert_judged(False, apart=apart)
        self.assert_judged(False, [], [], [0], loops=[])
        self.assert_judged(False, [["a", "b", "c"]], [(0, 3), (0, 3)], [0, 1], loops=loops_with(["", ""]))
        self.assert_judged(False, [["c", "b", "a"]] * 2, [(0, 2), (1, 2)], [0, 1], loops=loops_with(["a", "a"]))

    def test_all_there_is_of_a_short_row(self):
        row = ["a", "b"]
        lines_tried = [list(lines) for many in range(3) for lines in product([["a", "b"], ["b", "a"], ["a"]], repeat=many)]
        aparts = [list(apart) for many in range(3) for apart in product(range(-1, 3), repeat=many)]
        for comings in [[]] + [[one] for one in ("", "a", "ab")] + [["a", "b"], ["a", "ab"], ["b", "b"]]:
            loops = loops_with(comings)
            one_seat = product(range(-1, 3), range(-1, 4)) if len(loops) < 2 else product(range(3), range(3))
            seats_tried = [list(seats) for seats in product(list(one_seat), repeat=len(loops))]
            for lines, seats, apart in product(lines_tried, seats_tried, aparts):
                told = lines_judged(row, loops, lines, seats, apart)
                self.assertIs(told, slow_judged(row, loops, lines, seats, apart))

    def test_drawn_ones(self):
        right, wrong = 0, 0
        for seed in range(3000):
            draw = drawn(seed)
            row = draw.sample(NAMES, draw.randint(1, 5))
            loops = drawn_loops(draw, row, draw.randint(1, 6))
            lines, seats, apart = lines_of(row, loops)
            if draw.random() < 0.3:
                apart = sorted(draw.sample(range(len(loops)), len(apart)))
            if draw.random() < 0.3:
                place = draw.randrange(len(row))
                line = lines[draw.randrange(len(lines))]
                line[place], line[0] = line[0], line[place]
            if draw.random() < 0.3:
                number = draw.randrange(len(loops))
                seats[number] = (draw.randrange(len(lines)), seats[number][1])
            answer = slow_judged(row, loops, lines, seats, apart)
            self.assertIs(lines_judged(row, loops, lines, seats, apart), answer)
            right, wrong = right + answer, wrong + (not answer)
        self.assertGreater(min(right, wrong), 300)

    def test_refused(self):
        for more in (([], [], []), ([["a"]], [(9, 9)], [-1]), (self.LINES, self.SEATS, self.APART)):
            assert_refusals(self, lines_judged, *more)
