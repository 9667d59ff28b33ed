import unittest

from stirround.names import is_name, is_row
from tests.model import FORTY

LETTERS = "abcdefghijklmnopqrstuvwxyz"
NO_NAMES = [
    "", " ", "abcdefghi", "a" * 9, "a" * 40000, "A", "aB", "Ab", "aBc", "1", "a1", "1a", "a1b", "a b", " a", "a ",
    "a-b", "-", "a_b", "_", "a\n", "\n", "\na", "a\nb", "`", "{", "a`", "a{", "~", "!", "a.b", "a;",
]


class IsNameTest(unittest.TestCase):
    def test_each_letter_by_itself(self):
        for letter in LETTERS:
            with self.subTest(letter):
                self.assertIs(is_name(letter), True)

    def test_just_the_small_letters_of_all_signs(self):
        for number in range(ord(" "), ord("~") + 1):
            sign = chr(number)
            for text in [sign, "a" + sign, sign + "z", "a" + sign + "z"]:
                with self.subTest(text):
                    self.assertIs(is_name(text), sign in LETTERS)

    def test_lengths(self):
        for length in range(0, 20):
            with self.subTest(length):
                self.assertIs(is_name("q" * length), 1 <= length <= 8)
                self.assertIs(is_name(LETTERS[:length]), 1 <= length <= 8)

    def test_no_names(self):
        for text in NO_NAMES:
            with self.subTest(text[:20]):
                self.assertIs(is_name(text), False)

    def test_letters_in_any_order_and_alike(self):
        for text in ["ab", "ba", "aa", "zyxwvuts", "zzzzzzzz", "azazazaz"]:
            with self.subTest(text):
                self.assertIs(is_name(text), True)


class IsRowTest(unittest.TestCase):
    def assert_row(self, some, answer):
        for kind in (list, tuple):
            handed = kind(some)
            self.assertIs(is_row(handed), answer)
            self.assertEqual(handed, kind(some))

    def test_lengths(self):
        more = FORTY + ["na", "nb", "nc"]
        self.assertEqual(len(FORTY), 40)
        for length in range(len(more) + 1):
            with self.subTest(length):
                self.assert_row(more[:length], length <= 40)

    def test_ordinary_rows(self):
        for some in [[], ["a"], ["b", "a"], ["a", "aa", "aaa"], ["abcdefgh", "hgfedcba"]]:
            with self.subTest(some):
                self.assert_row(some, True)

    def test_a_name_twice_at_any_two_places(self):
        row = ["a", "b", "c", "d", "e"]
        for one in range(5):
            for other in range(one):
                some = list(row)
                some[one] = some[other]
                with self.subTest(some):
                    self.assert_row(some, False)

    def test_a_name_twice_in_the_longest_row(self):
        self.assert_row(FORTY[:39] + [FORTY[0]], False)
        self.assert_row(FORTY[:20] + FORTY[19:39], False)

    def test_no_name_at_any_place(self):
        for text in NO_NAMES:
            for place in range(4):
                some = ["a", "b", "c"]
                some.insert(place, text)
                with self.subTest(text[:20], place=place):
                    self.assert_row(some, False)
        for place in range(40):
            with self.subTest(place=place):
                self.assert_row(FORTY[:place] + ["A"] + FORTY[place + 1:], False)
