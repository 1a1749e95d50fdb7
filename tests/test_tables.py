"""Points 1 and 26: tables."""

import unittest

from typefault.cases import Case
from typefault.errors import InvalidTests
from typefault.keyboards import Keyboard
from typefault.tables import table

KEYBOARD = Keyboard(("aA", "bB", "cC"))
POOL = (("up",), ("swap", 0, 2), ("dead", 1), ("feed", 0), ("slip", 3))
CASE = Case(KEYBOARD, 6, POOL, 2)


class TableTest(unittest.TestCase):
    def test_a_line_for_each_fault_in_the_order_of_the_pool(self):
        tests = [[0], ["up", 1], ["return", 1], [1] * 4, []]
        lines = ["up: - x - - -", "swap 0 2: x - - - -", "dead 1: - x x x -", "feed 0: - - x - -", "slip 3: - - - x -"]
        self.assertEqual(table(CASE, tests), "\n".join(lines))

    def test_no_tests(self):
        self.assertEqual(table(CASE, []), "up:\nswap 0 2:\ndead 1:\nfeed 0:\nslip 3:")

    def test_empty_pool(self):
        for tests in ([], [[0]], [[0], []]):
            self.assertEqual(table(Case(KEYBOARD, 6, (), 4), tests), "")

    def test_each_fault_alone(self):
        # The swap alone spoils nothing where both keys are struck in one cell, and the backspace key's fault does.
        case = Case(KEYBOARD, 6, (("swap", 0, 2), ("back",)), 2)
        self.assertEqual(table(case, [[0, "back", 2]]), "swap 0 2: -\nback: x")

    def test_a_fault_that_spoils_nothing(self):
        self.assertEqual(table(Case(KEYBOARD, 6, (("space",),), 1), [[0, 1], ["space"], [0, "space"]]), "space: - - -")

    def test_whatever_the_case_says_of_how_many(self):
        for most in range(5):
            for pool in ((("dead", 0),), (("dead", 0), ("stuck", 0), ("double", 0))):
                told = table(Case(KEYBOARD, 6, pool, most), [[0], [0, 1], [1]])
                expected = ["dead 0: x x -", "stuck 0: - x -", "double 0: x x -"][:len(pool)]
                self.assertEqual(told, "\n".join(expected))

    def test_one_fault_and_one_test(self):
        self.assertEqual(table(Case(KEYBOARD, 6, (("feed", 2),), 0), [("return", 0)]), "feed 2: x")

    def test_ten_faults(self):
        pool = (("back",), ("dead", 0), ("double", 0), ("down",), ("feed", 0), ("feed", 2), ("slip", 1), ("space",),
                ("stuck", 0), ("up",))
        words = ["back", "dead 0", "double 0", "down", "feed 0", "feed 2", "slip 1", "space", "stuck 0", "up"]
        told = table(Case(KEYBOARD, 6, pool, 1), [["up", "down", 0]])
        signs = ["-", "x", "x", "x", "-", "-", "-", "-", "-", "-"]
        self.assertEqual(told, "\n".join(f"{word}: {sign}" for word, sign in zip(words, signs)))

    def test_invalid_tests(self):
        for case in (CASE, Case(KEYBOARD, 6, (), 0)):
            for tests, index in (([[3]], 0), ([[0], [0, "x"], [9]], 1), ([[], [True]], 1), ([[0] * 60, [0] * 61], 1)):
                with self.assertRaises(InvalidTests) as caught:
                    table(case, tests)
                self.assertEqual(caught.exception.index, index)

    def test_many_tests(self):
        self.assertEqual(table(Case(KEYBOARD, 6, (("dead", 0),), 1), [[0], [1]] * 10), "dead 0:" + " x -" * 10)
