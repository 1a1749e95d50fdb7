"""Points 1 and 28: the code of a case."""

import unittest

from typefault.cases import Case
from typefault.codec import decode_case, encode_case
from typefault.errors import DecodeError, InvalidCase, InvalidKeyboard
from typefault.keyboards import SIGNS, Keyboard

KEYBOARD = Keyboard(("!,", "-.", "zZ"))
ALL_KINDS = (("back",), ("dead", 0), ("double", 1), ("down",), ("feed", 2), ("slip", 18), ("space",), ("stuck", 2),
             ("swap", 0, 1), ("up",))


def with_checksum(items):
    checksum = 5
    for item in items:
        checksum = (checksum * 19 + item) % 253
    return list(items) + [checksum]


def told(case):
    return (case.keyboard.key_signs, case.width, case.pool, case.most)


class EncodeTest(unittest.TestCase):
    def test_each_item(self):
        case = Case(KEYBOARD, 20, ALL_KINDS, 4)
        code = encode_case(case)
        self.assertEqual(code[:9], [116, 3, 0, 1, 2, 3, 68, 42, 20])
        self.assertEqual(code[9:11], [4, 10])
        self.assertEqual(code[11:-1], [0, 1, 0, 2, 1, 3, 4, 2, 5, 18, 6, 7, 2, 8, 0, 1, 9])
        self.assertEqual(code, with_checksum(code[:-1]))

    def test_checksums(self):
        self.assertEqual(encode_case(Case(Keyboard(("!,", "-.")), 5, (("swap", 0, 1),), 1))[-1], 15)
        checksums = set()
        for width in range(2, 21):
            for most in range(5):
                code = encode_case(Case(KEYBOARD, width, (), most))
                self.assertEqual(code, with_checksum(code[:-1]))
                checksums.add(code[-1])
        self.assertLess(max(checksums), 253)
        self.assertGreater(len(checksums), 50)

    def test_all_items_are_bytes(self):
        for code in (encode_case(Case(KEYBOARD, 20, ALL_KINDS, 4)), encode_case(Case(KEYBOARD, 2, (), 0))):
            self.assertTrue(all(type(item) is int and 0 <= item <= 255 for item in code))

    def test_signs(self):
        self.assertEqual(len(SIGNS), 69)
        for start in range(0, 60, 6):
            keys = tuple(SIGNS[at:at + 2] for at in range(start, start + 6, 2))
            code = encode_case(Case(Keyboard(keys), 5, (), 0))
            self.assertEqual(code[2:8], list(range(start, start + 6)))

    def test_answers_may_be_changed(self):
        case = Case(KEYBOARD, 20, ALL_KINDS, 4)
        expected = list(encode_case(case))
        for _ in range(2):
            code = encode_case(case)
            self.assertEqual(code, expected)
            code.clear()


class DecodeTest(unittest.TestCase):
    def check_both_ways(self, case):
        code = encode_case(case)
        kept = list(code)
        decoded = decode_case(code)
        self.assertIs(type(decoded), Case)
        self.assertEqual(told(decoded), told(case))
        self.assertEqual(code, kept)
        self.assertEqual(encode_case(decoded), code)

    def test_both_ways(self):
        self.check_both_ways(Case(KEYBOARD, 20, ALL_KINDS, 4))
        self.check_both_ways(Case(KEYBOARD, 20, ALL_KINDS[::-1], 0))
        self.check_both_ways(Case(Keyboard(("aA", "1!")), 2, (), 0))
        for width in range(3, 21):
            self.check_both_ways(Case(KEYBOARD, width, (("slip", width - 2), ("slip", 1))[:width - 2], 1))

    def test_ten_keys_and_ten_faults(self):
        keyboard = Keyboard(("aA", "bB", "cC", "dD", "eE", "fF", "gG", "hH", "iI", "jJ"))
        self.check_both_ways(Case(keyboard, 20, tuple(("swap", key, 9) for key in range(9)) + (("dead", 9),), 4))

    def test_arguments_are_not_kept(self):
        code = encode_case(Case(KEYBOARD, 20, ALL_KINDS, 4))
        case = decode_case(code)
        code.clear()
        self.assertEqual(told(case), told(Case(KEYBOARD, 20, ALL_KINDS, 4)))


# The code of a case with two keys and three faults, with the range of each item ahead of the checksum.
ITEMS = [(116, 116, 116), (2, 2, 10), (0, 0, 68), (1, 0, 68), (2, 0, 68), (3, 0, 68), (20, 2, 20), (4, 0, 4),
         (3, 0, 10), (8, 0, 9), (0, 0, 20), (1, 0, 20), (5, 0, 9), (7, 0, 20), (9, 0, 9)]
CODE = with_checksum([item for item, _, _ in ITEMS])


class DecodeErrorTest(unittest.TestCase):
    def check(self, code, offset):
        with self.subTest(code=code):
            kept = list(code)
            with self.assertRaises(DecodeError) as caught:
                decode_case(code)
            self.assertIs(type(caught.exception), DecodeError)
            self.assertEqual(caught.exception.offset, offset)
            self.assertEqual(code, kept)

    def test_code_is_right(self):
        self.assertEqual(told(decode_case(CODE)), (("!,", "-."), 20, (("swap", 0, 1), ("slip", 7), ("up",)), 4))

    def test_items_out_of_range(self):
        for offset, (_, low, high) in enumerate(ITEMS):
            for item in (low - 1, high + 1, -10 ** 20, 10 ** 20):
                items = [other for other, _, _ in ITEMS]
                items[offset] = item
                self.check(with_checksum(items), offset)
                self.check(items[:offset + 1], offset)
                self.check(items[:offset + 1] + ["x", None], offset)

    def test_ends_of_the_ranges(self):
        # What is right by its range is either right or wrong behind it.
        for offset, (_, low, high) in enumerate(ITEMS):
            for item in (low, high):
                code = [other for other, _, _ in ITEMS[:offset]] + [item]
                self.check(code, offset + 1)

    def test_booleans_and_what_is_no_integer(self):
        for offset in range(len(CODE)):
            for item in (True, False, None, "x", "0", (), [0]):
                self.check(CODE[:offset] + [item] + CODE[offset + 1:], offset)
        # True would be 1 and False 0.
        code = with_checksum([116, 2, 0, 1, 2, 3, 5, 1, 1, 8, 0, 1])
        for offset, item in enumerate(code):
            if item in (0, 1):
                self.check(code[:offset] + [bool(item)] + code[offset + 1:], offset)

    def test_boolean_for_a_checksum(self):
        # Codes whose checksums are 1 and 0, in which these are booleans.
        found = set()
        for width in range(2, 21):
            for most in range(5):
                for sign in range(1, 68):
                    code = with_checksum([116, 2, 0, sign, 2, 68, width, most, 0])
                    if code[-1] in (0, 1) and code[-1] not in found:
                        found.add(code[-1])
                        self.check(code[:-1] + [bool(code[-1])], 9)
        self.assertEqual(found, {0, 1})

    def test_wrong_checksums(self):
        for item in [CODE[-1] - 1, CODE[-1] + 1, CODE[-1] + 253, CODE[-1] - 253, -1, 253, 256, 10 ** 20]:
            self.check(CODE[:-1] + [item], len(CODE) - 1)
            self.check(CODE[:-1] + [item, 0, 0], len(CODE) - 1)

    def test_an_item_behind_the_checksum(self):
        for behind in ([0], [CODE[-1]], ["x"], [None, 0], [True]):
            self.check(CODE + behind, len(CODE))

    def test_each_cut(self):
        for length in range(len(CODE)):
            self.check(CODE[:length], length)
        self.check([], 0)

    def test_the_first_wrong_item(self):
        self.check([115, 1], 0)
        self.check([116, 1, 70], 1)
        self.check([116, 2, 0, 69, 0, 69], 3)
        self.check(CODE[:6] + [1, 5, 11], 6)
        self.check(CODE[:6] + [2, 5, 11], 7)
        self.check(CODE[:6] + [2, 4, 11], 8)

    def test_decode_error_goes_ahead_of_all_else(self):
        self.check([116, 2, 0, 0, 2, 3, 5, 1, 0, 200], 9)
        self.check(with_checksum([116, 2, 0, 0, 2, 3, 5, 1, 0]) + [0], 10)
        self.check(with_checksum([116, 2, 0, 1, 2, 3, 5, 1, 1, 1, 2])[:-1], 11)


class OtherErrorsTest(unittest.TestCase):
    def test_invalid_keyboards(self):
        for keys, index in (([0, 0, 2, 3], 0), ([0, 1, 2, 2], 1), ([0, 1, 1, 2], 1), ([3, 1, 2, 3], 1)):
            for width, pool in ((5, [0]), (5, [1, 1, 9])):
                with self.assertRaises(InvalidKeyboard) as caught:
                    decode_case(with_checksum([116, 2, *keys, width, 1, *pool]))
                self.assertEqual(caught.exception.index, index)

    def test_invalid_cases(self):
        wrong = [([1, 1, 2], 0), ([2, 9, 5, 4], 1), ([2, 9, 9], 1), ([1, 8, 1, 0], 0), ([1, 8, 1, 1], 0),
                 ([1, 4, 1], 0), ([1, 5, 0], 0), ([3, 0, 6, 7, 20], 2), ([2, 1, 0, 1, 0], 1)]
        for pool, index in wrong:
            with self.assertRaises(InvalidCase) as caught:
                decode_case(with_checksum([116, 2, 0, 1, 2, 3, 5, 1, *pool]))
            self.assertEqual((caught.exception.part, caught.exception.index), ("pool", index))
