import unittest

from stirround import errors

FIELDS = {
    "NoName": "name",
    "There": "name",
    "Gone": "name",
    "NoPlace": "at",
    "NoRule": "rule",
    "NoLog": "number",
    "Stale": "number",
    "NoWhere": "where",
    "NoText": "line",
}
OF_A_TEXT = ["Full", "TooMany", "NoLoop", "NoTicket", "Endless", "NoOrders", "NoRow"]
REFUSALS = list(FIELDS) + OF_A_TEXT


def made(name):
    return getattr(errors, name)("abc")


class ErrorsTest(unittest.TestCase):
    def test_there_are_sixteen(self):
        self.assertEqual(len(REFUSALS), 16)
        there = [name for name, thing in vars(errors).items() if isinstance(thing, type)]
        self.assertEqual(sorted(there), sorted(REFUSALS + ["StirError"]))

    def test_stir_error_stands_under_value_error(self):
        self.assertEqual(errors.StirError.__bases__, (ValueError,))
        with self.assertRaises(ValueError):
            raise errors.StirError("any")

    def test_each_stands_straight_under_stir_error(self):
        for name in REFUSALS:
            with self.subTest(name):
                self.assertEqual(getattr(errors, name).__bases__, (errors.StirError,))
                self.assertIsInstance(made(name), errors.StirError)
                self.assertIsInstance(made(name), ValueError)

    def test_none_is_one_of_the_other_fifteen(self):
        for name in REFUSALS:
            for other in REFUSALS:
                with self.subTest(name, other=other):
                    self.assertEqual(isinstance(made(name), getattr(errors, other)), name == other)

    def test_fields(self):
        for name, field in FIELDS.items():
            for value in ["", "Abc 1", 0, -1, 10 ** 59]:
                with self.subTest(name, value=value):
                    error = getattr(errors, name)(value)
                    self.assertEqual(vars(error), {field: value})
                    with self.assertRaises(errors.StirError) as caught:
                        raise error
                    self.assertEqual(getattr(caught.exception, field), value)

    def test_fields_are_each_objects_own(self):
        one = errors.Gone("a")
        other = errors.Gone("b")
        self.assertEqual((one.name, other.name), ("a", "b"))

    def test_made_of_a_text(self):
        for name in OF_A_TEXT:
            with self.subTest(name):
                self.assertEqual(str(getattr(errors, name)("so it is")), "so it is")
