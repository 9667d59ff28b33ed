"""Whole runs: loops begun, led through drawn deeds and stepped up to None."""

import unittest

from stirround.deeds import done, undoing
from stirround.loops import begun, is_loop, led, rest, step
from tests.model import FORTY, NAMES, RULES, World, drawn, drawn_deed


class Run:
    """The program and the model side by side, through the same deeds and steps."""

    def __init__(self, case, row):
        self.case = case
        self.world = World(row)
        self.row = list(row)
        self.loops = []
        self.told = []
        self.things = []
        self.seen = []

    def begin(self, rule):
        self.world.begin(rule)
        self.loops.append(begun(self.row, rule))
        self.told.append([])
        self.things.append([])
        self.seen.append([])

    def act(self, deed):
        ahead = list(self.row)
        self.loops = [led(self.row, loop, deed) for loop in self.loops]
        back = undoing(self.row, deed)
        self.row = done(self.row, deed)
        self.case.assertEqual(done(self.row, back), ahead)
        self.world.act(deed)
        for seen in self.seen:
            seen.append(deed)
        self.check()

    def step(self, number):
        name, self.loops[number] = step(self.row, self.loops[number])
        if name is not None:
            self.case.assertIn(name, self.row)
            self.things[number].append(self.world.things[self.row.index(name)])
        thing = self.world.loops[number].step()
        self.case.assertEqual(name, self.world.names.get(thing))
        self.told[number].append(name)
        self.seen[number].append(("step",))
        self.check()
        return name

    def check(self):
        self.case.assertEqual(self.row, self.world.row())
        self.case.assertEqual(self.loops, [loop.as_loop() for loop in self.world.loops])
        for loop in self.loops:
            self.case.assertIs(is_loop(self.row, loop), True)

    def finish(self, number):
        rest_told = rest(self.row, self.loops[number])
        told = []
        while self.step(number) is not None:
            told.append(self.told[number][-1])
        self.case.assertEqual(told, rest_told)


class WholeRunsTest(unittest.TestCase):
    def stirred(self, draw, row, rules, length, kinds=("put", "take", "move", "turn")):
        """A run with loops by these rules, begun at drawn times, up to None."""
        run = Run(self, row)
        due = list(rules)
        for turn in range(length):
            if due and draw.random() < 0.5:
                run.begin(due.pop())
            elif run.loops and draw.random() < 0.4:
                run.step(draw.randrange(len(run.loops)))
            else:
                deed = drawn_deed(draw, run.row, kinds)
                if deed is not None:
                    run.act(deed)
        for number in range(len(run.loops)):
            run.finish(number)
        return run

    def test_each_told_once_none_twice_none_gone(self):
        for seed in range(150):
            draw = drawn(seed)
            row = draw.sample(NAMES, draw.randint(0, 7))
            rules = [draw.choice(RULES) for number in range(draw.randint(1, 4))]
            run = self.stirred(draw, row, rules, 40)
            for things, loop in zip(run.things, run.world.loops):
                # owed are all that came to be to come, less those taken out ahead of their tell
                self.assertEqual(len(set(things)), len(things))
                self.assertEqual(sorted(things), sorted(loop.owed))

    def test_on_long_rows(self):
        for seed in range(6):
            draw = drawn(seed)
            row = draw.sample(FORTY, 28 + 2 * seed)
            kinds = ("take", "move", "turn") if seed == 5 else ("put", "take", "move", "turn")
            self.stirred(draw, row, RULES, 60, kinds)

    def test_side_by_side_as_each_alone(self):
        for seed in range(60):
            draw = drawn(seed)
            row = draw.sample(NAMES, 6)
            run = Run(self, row)
            for rule in RULES + RULES:
                run.begin(rule)
            for turn in range(30):
                if draw.random() < 0.5:
                    run.step(draw.randrange(6))
                else:
                    run.act(drawn_deed(draw, run.row))
            for number, rule in enumerate(RULES + RULES):
                alone = Run(self, row)
                alone.begin(rule)
                for entry in run.seen[number]:
                    if entry == ("step",):
                        alone.step(0)
                    else:
                        alone.act(entry)
                self.assertEqual(alone.told[0], run.told[number])
                self.assertEqual(alone.loops[0], run.loops[number])

    def test_ahead_needs_its_gap_alone(self):
        for seed in range(80):
            draw = drawn(seed)
            run = Run(self, draw.sample(NAMES, draw.randint(0, 8)))
            run.begin("ahead")
            for turn in range(40):
                if draw.random() < 0.4:
                    run.step(0)
                else:
                    run.act(drawn_deed(draw, run.row, ("put", "take")))
                loop = run.loops[0]
                self.assertEqual(loop[2], tuple(sorted(run.row[loop[1]:])))

    def test_the_same_question_has_the_same_answer(self):
        draw = drawn(3)
        row = draw.sample(NAMES, 6)
        loop = ("all", 3, tuple(sorted(row[1:5])))
        for turn in range(20):
            deed = drawn_deed(draw, row)
            self.assertEqual(led(row, loop, deed), led(tuple(row), loop, deed))
            self.assertEqual(done(row, deed), done(tuple(row), deed))
        self.assertEqual(step(row, loop), step(tuple(row), loop))
        self.assertEqual(rest(row, loop), rest(tuple(row), loop))
