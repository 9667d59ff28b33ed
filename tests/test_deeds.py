from stirround.deeds import done, gap_behind, place_of, undoing
from stirround.errors import Full, Gone, NoName, NoPlace, There
from tests.model import FORTY, RefusalCase, World, all_deeds, drawn, drawn_deed, refusal_of

ROW = ["a", "b", "c", "d"]
BIG = 10 ** 59
# Short rows are tried with every deed there is; "A" and "" are no names.
SHORT = [[], ["a"], ["b", "a"], ["c", "a", "b"], ["b", "d", "a", "c"]]
TRIED = ["a", "b", "c", "d", "e", "A", ""]


class DeedsCase(RefusalCase):
    def assert_deed_refused(self, row, deed, error, field=None):
        """Refused by all that take a deed, of a list and of a tuple, and nothing is changed."""
        for handed in (list(row), tuple(row)):
            kept = type(handed)(row)
            self.assert_refused(error, field, done, handed, deed)
            self.assert_refused(error, field, undoing, handed, deed)
            self.assert_refused(error, field, gap_behind, handed, len(row), deed)
            self.assertEqual(handed, kept)

    def assert_done(self, row, deed, behind):
        for handed in (list(row), tuple(row)):
            kept = type(handed)(row)
            told = done(handed, deed)
            self.assertIs(type(told), list)
            self.assertEqual(told, behind)
            self.assertEqual(handed, kept)


class PlaceOfTest(DeedsCase):
    def test_each_place(self):
        for row in [["a"], ROW, FORTY]:
            for place, name in enumerate(row):
                self.assertEqual(place_of(row, name), place)
                self.assertEqual(place_of(tuple(row), name), place)

    def test_gone(self):
        for row in [[], ROW, FORTY]:
            for name in ["e", "A", "", "ab", "aa"]:
                self.assert_refused(Gone, name, place_of, row, name)
                self.assert_refused(Gone, name, place_of, tuple(row), name)


class DoneTest(DeedsCase):
    def test_put(self):
        self.assert_done([], ("put", "a", 0), ["a"])
        self.assert_done(ROW, ("put", "x", 0), ["x", "a", "b", "c", "d"])
        self.assert_done(ROW, ("put", "x", 2), ["a", "b", "x", "c", "d"])
        self.assert_done(ROW, ("put", "x", 3), ["a", "b", "c", "x", "d"])
        self.assert_done(ROW, ("put", "x", 4), ["a", "b", "c", "d", "x"])
        self.assert_done(FORTY[:39], ("put", "abcdefgh", 39), FORTY[:39] + ["abcdefgh"])

    def test_take(self):
        self.assert_done(["a"], ("take", "a"), [])
        self.assert_done(ROW, ("take", "a"), ["b", "c", "d"])
        self.assert_done(ROW, ("take", "c"), ["a", "b", "d"])
        self.assert_done(ROW, ("take", "d"), ["a", "b", "c"])
        self.assert_done(FORTY, ("take", FORTY[0]), FORTY[1:])
        self.assert_done(FORTY, ("take", FORTY[39]), FORTY[:39])

    def test_move(self):
        self.assert_done(["a"], ("move", "a", 0), ["a"])
        self.assert_done(ROW, ("move", "a", 3), ["b", "c", "d", "a"])
        self.assert_done(ROW, ("move", "a", 1), ["b", "a", "c", "d"])
        self.assert_done(ROW, ("move", "b", 1), ["a", "b", "c", "d"])
        self.assert_done(ROW, ("move", "b", 2), ["a", "c", "b", "d"])
        self.assert_done(ROW, ("move", "d", 0), ["d", "a", "b", "c"])
        self.assert_done(FORTY, ("move", FORTY[0], 39), FORTY[1:] + FORTY[:1])
        self.assert_done(FORTY, ("move", FORTY[39], 0), FORTY[39:] + FORTY[:39])

    def test_turn(self):
        self.assert_done([], ("turn", 0, 0), [])
        self.assert_done(ROW, ("turn", 0, 4), ["d", "c", "b", "a"])
        self.assert_done(ROW, ("turn", 0, 2), ["b", "a", "c", "d"])
        self.assert_done(ROW, ("turn", 1, 4), ["a", "d", "c", "b"])
        self.assert_done(ROW, ("turn", 1, 3), ["a", "c", "b", "d"])
        self.assert_done(ROW, ("turn", 2, 3), ROW)
        for place in range(5):
            self.assert_done(ROW, ("turn", place, place), ROW)
        self.assert_done(FORTY, ("turn", 0, 40), FORTY[::-1])
        self.assert_done(FORTY, ("turn", 40, 40), FORTY)

    def test_every_told_list_is_new(self):
        for deed in [("put", "x", 4), ("take", "d"), ("move", "b", 1), ("turn", 0, 0), ("turn", 0, 4)]:
            row = list(ROW)
            told = done(row, deed)
            again = done(row, deed)
            behind = list(told)
            self.assertEqual(again, told)
            told.append("more")
            row.clear()
            self.assertEqual(again, behind)
            self.assertEqual(done(ROW, deed), behind)

    def test_what_came_back_is_put_where_told(self):
        self.assert_done(done(ROW, ("take", "b")), ("put", "b", 3), ["a", "c", "d", "b"])


class RefusalTest(DeedsCase):
    def test_put(self):
        self.assert_deed_refused(ROW, ("put", "X", 0), NoName, "X")
        self.assert_deed_refused(ROW, ("put", "", 0), NoName, "")
        self.assert_deed_refused(ROW, ("put", "abcdefghi", 0), NoName, "abcdefghi")
        self.assert_deed_refused(ROW, ("put", "c", 0), There, "c")
        for at in (-BIG, -1, 5, BIG):
            self.assert_deed_refused(ROW, ("put", "x", at), NoPlace, at)
        self.assert_deed_refused([], ("put", "x", 1), NoPlace, 1)
        for at in (0, 20, 39, 40):
            self.assert_deed_refused(FORTY, ("put", "x", at), Full)

    def test_put_in_order(self):
        self.assert_deed_refused(FORTY, ("put", "x1", 41), NoName, "x1")
        self.assert_deed_refused(FORTY, ("put", FORTY[7], 41), There, FORTY[7])
        self.assert_deed_refused(FORTY, ("put", "x", 41), NoPlace, 41)
        self.assert_deed_refused(FORTY, ("put", "x", -1), NoPlace, -1)
        self.assert_deed_refused(FORTY, ("put", FORTY[7], 7), There, FORTY[7])
        self.assert_deed_refused(ROW, ("put", "X", 9), NoName, "X")
        self.assert_deed_refused(ROW, ("put", "a", 9), There, "a")

    def test_take(self):
        for row in ([], ROW, FORTY):
            for name in ("x", "X", "", "ab"):
                self.assert_deed_refused(row, ("take", name), Gone, name)

    def test_move(self):
        for row in ([], ROW, FORTY):
            for name in ("x", "X", ""):
                for at in (-1, 0, 40, 41):
                    self.assert_deed_refused(row, ("move", name, at), Gone, name)
        for at in (-BIG, -1, 4, 5, BIG):
            self.assert_deed_refused(ROW, ("move", "a", at), NoPlace, at)
        self.assert_deed_refused(FORTY, ("move", FORTY[3], 40), NoPlace, 40)

    def test_turn(self):
        for low in (-BIG, -1, 5, BIG):
            for high in (-2, 0, 4, 6):
                self.assert_deed_refused(ROW, ("turn", low, high), NoPlace, low)
        for low, high in ((0, 5), (0, -1), (2, 1), (4, 3), (4, 5), (3, BIG)):
            self.assert_deed_refused(ROW, ("turn", low, high), NoPlace, high)
        self.assert_deed_refused([], ("turn", 1, 7), NoPlace, 1)
        self.assert_deed_refused([], ("turn", 0, 1), NoPlace, 1)

    def test_gap_ahead_of_all_else(self):
        wrong = [("put", "X", 9), ("put", "a", 9), ("take", "x"), ("move", "x", 9), ("move", "a", 9), ("turn", 9, 8)]
        right = [("put", "x", 0), ("take", "a"), ("move", "a", 0), ("turn", 0, 1)]
        for deed in wrong + right:
            for gap in (-BIG, -1, 5, BIG):
                self.assert_refused(NoPlace, gap, gap_behind, ROW, gap, deed)
                self.assert_refused(NoPlace, gap, gap_behind, tuple(ROW), gap, deed)
        self.assert_refused(NoPlace, 41, gap_behind, FORTY, 41, ("put", "x", 0))
        self.assert_refused(NoPlace, 1, gap_behind, [], 1, ("take", "x"))


class UndoingTest(DeedsCase):
    def test_each_deed(self):
        for row in (ROW, tuple(ROW)):
            self.assertEqual(undoing(row, ("put", "x", 2)), ("take", "x"))
            self.assertEqual(undoing(row, ("take", "a")), ("put", "a", 0))
            self.assertEqual(undoing(row, ("take", "d")), ("put", "d", 3))
            self.assertEqual(undoing(row, ("move", "b", 3)), ("move", "b", 1))
            self.assertEqual(undoing(row, ("move", "d", 0)), ("move", "d", 3))
            self.assertEqual(undoing(row, ("move", "c", 2)), ("move", "c", 2))
            self.assertEqual(undoing(row, ("turn", 1, 3)), ("turn", 1, 3))
            self.assertEqual(undoing(row, ("turn", 4, 4)), ("turn", 4, 4))

    def test_leads_back(self):
        for row in SHORT + [FORTY]:
            for deed in all_deeds(row, ["a", "x", FORTY[0], FORTY[17], FORTY[39]]):
                if refusal_of(row, deed) is None:
                    back = undoing(row, deed)
                    self.assertIs(type(back), tuple)
                    self.assertEqual(done(done(row, deed), back), row, (row, deed))


class GapBehindTest(DeedsCase):
    def assert_gaps(self, row, deed, behind):
        for handed in (list(row), tuple(row)):
            told = [gap_behind(handed, gap, deed) for gap in range(len(row) + 1)]
            self.assertEqual(told, behind)
            self.assertEqual(list(handed), row)

    def test_put(self):
        self.assert_gaps([], ("put", "x", 0), [0])
        self.assert_gaps(ROW, ("put", "x", 0), [0, 2, 3, 4, 5])
        self.assert_gaps(ROW, ("put", "x", 2), [0, 1, 2, 4, 5])
        self.assert_gaps(ROW, ("put", "x", 4), [0, 1, 2, 3, 4])

    def test_take(self):
        self.assert_gaps(["a"], ("take", "a"), [0, 0])
        self.assert_gaps(ROW, ("take", "a"), [0, 0, 1, 2, 3])
        self.assert_gaps(ROW, ("take", "c"), [0, 1, 2, 2, 3])
        self.assert_gaps(ROW, ("take", "d"), [0, 1, 2, 3, 3])

    def test_move(self):
        self.assert_gaps(["a"], ("move", "a", 0), [0, 0])
        self.assert_gaps(ROW, ("move", "a", 3), [0, 0, 1, 2, 3])
        self.assert_gaps(ROW, ("move", "d", 0), [0, 2, 3, 4, 4])
        self.assert_gaps(ROW, ("move", "b", 1), [0, 1, 1, 3, 4])
        self.assert_gaps(ROW, ("move", "b", 2), [0, 1, 1, 2, 4])
        self.assert_gaps(ROW, ("move", "c", 1), [0, 1, 3, 3, 4])

    def test_turn(self):
        for low in range(5):
            for high in range(low, 5):
                self.assert_gaps(ROW, ("turn", low, high), [0, 1, 2, 3, 4])

    def test_forty(self):
        self.assert_gaps(FORTY, ("take", FORTY[39]), list(range(40)) + [39])
        self.assert_gaps(FORTY, ("move", FORTY[0], 39), [0] + list(range(40)))
        self.assert_gaps(FORTY, ("turn", 0, 40), list(range(41)))


class AllDeedsTest(DeedsCase):
    """Every deed on short rows, and drawn ones on long rows, against the model."""

    def assert_as_model(self, row, deed):
        due = refusal_of(row, deed)
        if due is not None:
            self.assert_deed_refused(row, deed, due[0], due[1])
            return
        world = World(row)
        gaps = [world.begin("none") for place in range(len(row) + 1)]
        for gap, loop in enumerate(gaps):
            world.set_at(loop, gap, [])
        world.act(deed)
        self.assert_done(row, deed, world.row())
        told = [gap_behind(row, gap, deed) for gap in range(len(row) + 1)]
        self.assertEqual(told, [loop.gap() for loop in gaps], (row, deed))

    def test_short_rows(self):
        for row in SHORT:
            for deed in all_deeds(row, TRIED, 2):
                self.assert_as_model(row, deed)

    def test_long_rows(self):
        draw = drawn(5)
        for length in (38, 39, 40):
            for turn in range(40):
                row = draw.sample(FORTY, length)
                deed = drawn_deed(draw, row)
                self.assert_as_model(row, deed)
