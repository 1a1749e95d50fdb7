"""Point 2: keyboards."""

import string
import unittest

from typefault.errors import InvalidKeyboard, UnknownSign
from typefault.keyboards import Keyboard

ALL_SIGNS = string.ascii_letters + string.digits + ".,;:!?-"
TEN = ("aA", "bB", "cC", "dD", "eE", "fF", "gG", "hH", "iI", "jJ")
ELEVEN = TEN + ("kK",)


class KeyboardTest(unittest.TestCase):
    def check_wrong(self, keys, index):
        with self.subTest(keys=keys):
            with self.assertRaises(InvalidKeyboard) as caught:
                Keyboard(keys)
            self.assertEqual(caught.exception.index, index)
            self.assertIs(type(caught.exception.index), int)

    def test_properties(self):
        keyboard = Keyboard(("zZ", "1!", "-.", "?a"))
        self.assertEqual(keyboard.key_signs, ("zZ", "1!", "-.", "?a"))
        self.assertIs(type(keyboard.key_signs), tuple)
        self.assertEqual(keyboard.signs, "!-.1?Zaz")
        self.assertEqual(len(keyboard), 4)

    def test_two_keys_and_ten_keys(self):
        for count in (2, 10):
            keyboard = Keyboard(TEN[:count])
            self.assertEqual(keyboard.key_signs, TEN[:count])
            self.assertEqual(len(keyboard), count)
        self.assertEqual(Keyboard(TEN).signs, "ABCDEFGHIJabcdefghij")

    def test_too_few_keys(self):
        self.check_wrong((), 0)
        self.check_wrong(("aA",), 1)
        self.check_wrong(("aa",), 0)

    def test_eleven_keys(self):
        self.check_wrong(ELEVEN, 10)
        self.check_wrong(ELEVEN + ("lL",), 10)
        self.check_wrong(TEN + ("k",), 10)

    def test_wrong_key_ahead_of_and_behind_the_eleventh(self):
        self.check_wrong(TEN[:9] + ("j",) + ("kK",), 9)
        self.check_wrong(("a",) + ELEVEN[1:], 0)
        self.check_wrong(ELEVEN + ("l",), 10)
        self.check_wrong(ELEVEN + ("aA",), 10)

    def test_each_sign_is_right_at_both_places(self):
        self.assertEqual(len(ALL_SIGNS), 69)
        for sign in ALL_SIGNS:
            partner = "x" if sign != "x" else "y"
            for key in (sign + partner, partner + sign):
                with self.subTest(key=key):
                    self.assertEqual(Keyboard((key, "Q0" if sign not in "Q0" else "R1")).key_signs[0], key)

    def test_other_signs_are_wrong(self):
        others = [sign for sign in map(chr, range(256)) if sign not in ALL_SIGNS]
        for sign in others + ["\u00e9", "\u0661", "\u0430", "\u20ac"]:
            self.check_wrong(("bB", "a" + sign), 1)
            self.check_wrong(("bB", sign + "a"), 1)

    def test_keys_of_another_length(self):
        for key in ("", "a", "aAx", "a A"):
            self.check_wrong((key, "bB"), 0)
            self.check_wrong(("bB", "cC", key), 2)

    def test_keys_that_are_no_texts(self):
        for key in (12, None, ("a", "A"), ["a", "A"]):
            self.check_wrong(("bB", key), 1)

    def test_equal_signs_in_one_key(self):
        self.check_wrong(("aA", "bb"), 1)
        self.check_wrong(("!!", "aA"), 0)

    def test_sign_of_an_earlier_key(self):
        self.check_wrong(("aA", "ba"), 1)
        self.check_wrong(("aA", "ab"), 1)
        self.check_wrong(("aA", "bB", "cA"), 2)
        self.check_wrong(("aA", "bB", "Ac"), 2)
        self.check_wrong(("aA", "aA"), 1)
        self.check_wrong(("aA", "Aa"), 1)

    def test_the_first_wrong_key_counts(self):
        self.check_wrong(("aA", "bA", "c", "dd"), 1)
        self.check_wrong(("aA", "b", "bA"), 1)

    def test_lower_and_upper_case_are_different_signs(self):
        self.assertEqual(Keyboard(("ab", "AB")).signs, "ABab")


class PlaceTest(unittest.TestCase):
    def test_place_of_each_sign(self):
        keyboard = Keyboard(TEN)
        for number, key in enumerate(TEN):
            self.assertEqual(keyboard.place_of(key[0]), (number, False))
            self.assertEqual(keyboard.place_of(key[1]), (number, True))

    def test_kinds_of_values(self):
        place = Keyboard(("aA", "bB")).place_of("b")
        self.assertIs(type(place), tuple)
        self.assertEqual([type(part) for part in place], [int, bool])

    def test_unknown_signs(self):
        keyboard = Keyboard(("aA", "1!"))
        for sign in ("b", "B", "2", "?", " ", "\n", "", "aA", "A1", "a1", "\u00e9"):
            with self.subTest(sign=sign), self.assertRaises(UnknownSign):
                keyboard.place_of(sign)

    def test_error_changes_nothing(self):
        keyboard = Keyboard(("aA", "1!"))
        for _ in range(2):
            with self.assertRaises(UnknownSign):
                keyboard.place_of("b")
            self.assertEqual(keyboard.place_of("!"), (1, True))
            self.assertEqual(keyboard, Keyboard(("aA", "1!")))


class EqualityTest(unittest.TestCase):
    def test_equal_if_the_keys_are(self):
        self.assertTrue(Keyboard(("aA", "bB")) == Keyboard(("aA", "bB")))
        self.assertFalse(Keyboard(("aA", "bB")) != Keyboard(("aA", "bB")))

    def test_order_and_signs_count(self):
        keyboard = Keyboard(("aA", "bB"))
        for keys in (("bB", "aA"), ("Aa", "bB"), ("aA", "bB", "cC"), ("aA", "bC"), ("aB", "bA")):
            with self.subTest(keys=keys):
                self.assertTrue(keyboard != Keyboard(keys))

    def test_other_values_are_not_equal(self):
        self.assertFalse(Keyboard(("aA", "bB")) == ("aA", "bB"))
        self.assertFalse(Keyboard(("aA", "bB")) == None)  # noqa: E711

    def test_methods_are_defined_in_the_class(self):
        for name in ("place_of", "__len__", "__eq__"):
            self.assertIn(name, vars(Keyboard))
        self.assertEqual(Keyboard.__module__, "typefault.keyboards")
