"""Points 1 and 16: what comes out after ever so many repetitions."""

import unittest

from typefault.errors import InvalidNumber, InvalidStrokes
from typefault.far import line_far, state_far
from typefault.keyboards import Keyboard
from typefault.machines import Machine

KEYBOARD = Keyboard(("aA", "bB", "cC"))
MOST = 10 ** 18


def machine_with(*faults, width=6):
    return Machine(KEYBOARD, width, faults)


class StateFarTest(unittest.TestCase):
    def test_count_0(self):
        for strokes in ([], [0, "up", "return"]):
            self.assertEqual(state_far(machine_with(), strokes, 0), (0, 0, False))

    def test_no_strokes(self):
        for count in (0, 1, MOST):
            self.assertEqual(state_far(machine_with(("feed", 2)), (), count), (0, 0, False))

    def test_once_and_several_times(self):
        strokes = [0, "space", "up"]
        for count, state in enumerate([(0, 0, False), (0, 2, True), (0, 4, True), (0, 5, True), (0, 5, True)]):
            self.assertEqual(state_far(machine_with(), strokes, count), state)

    def test_most(self):
        self.assertEqual(state_far(machine_with(), [0], MOST), (0, 5, False))
        self.assertEqual(state_far(machine_with(), ["return", 0, "return", 0], MOST), (2 * MOST, 1, False))
        self.assertEqual(state_far(machine_with(("feed", 2)), ["return"] * 60, MOST), (120 * MOST, 0, False))
        self.assertEqual(state_far(machine_with(("feed", 0)), [0, "return", 0, 1], MOST), (0, 2, False))

    def test_lock_stays_set(self):
        self.assertEqual(state_far(machine_with(), ["return", "up"], 3), (3, 0, True))
        self.assertEqual(state_far(machine_with(("down",)), ["down", 0, "up", "down"], MOST), (0, 5, True))
        self.assertEqual(state_far(machine_with(("up",)), ["up"], MOST), (0, 0, False))

    def test_kinds_of_values(self):
        for count in (0, 1, MOST):
            state = state_far(machine_with(), ["up", "return"], count)
            self.assertEqual([type(value) for value in state], [int, int, bool])


class LineFarTest(unittest.TestCase):
    def check(self, machine, strokes, count, lines):
        """The dict tells the text of each line; all other lines around them are empty."""
        near = [line + by for line in lines for by in (-2, -1, 0, 1, 2) if line + by >= 0]
        for line in near + [10 ** 21]:
            with self.subTest(count=count, line=line):
                self.assertEqual(line_far(machine, strokes, count, line), lines.get(line, ""))

    def test_count_0(self):
        self.check(machine_with(), [0, "return", 0], 0, {0: ""})

    def test_no_strokes(self):
        self.check(machine_with(), [], MOST, {0: ""})

    def test_strokes_that_never_begin_a_line(self):
        self.check(machine_with(), [0, "space"], 1, {0: "a"})
        self.check(machine_with(), [0, "space"], 2, {0: "a a"})
        self.check(machine_with(), [0, "space"], 3, {0: "a a a"})
        self.check(machine_with(), [0, "space"], 4, {0: "a a aa"})
        self.check(machine_with(), [0, "space"], MOST, {0: "a a aa"})

    def test_a_lock_that_stays_set_where_no_line_begins(self):
        strokes = [0, "space", "up"]
        self.check(machine_with(), strokes, 1, {0: "a"})
        self.check(machine_with(), strokes, 3, {0: "a A A"})
        self.check(machine_with(), strokes, MOST, {0: "a A AA"})
        self.check(machine_with(), ["back", "back", 0, "up"], 2, {0: "*"})

    def test_feed_0(self):
        strokes = ["return", "space", 0, "up"]
        self.check(machine_with(("feed", 0)), strokes, 1, {0: " a"})
        self.check(machine_with(("feed", 0)), strokes, MOST, {0: " *"})
        self.check(machine_with(("feed", 0)), [0, "return"], MOST, {0: "a"})

    def test_a_line_each_time(self):
        self.check(machine_with(), [0, 1, "return"], 3, {0: "ab", 1: "ab", 2: "ab"})
        lines = {0: "ab", 10 ** 17: "ab", MOST - 1: "ab"}
        self.check(machine_with(), [0, "return"], 1, {0: "a"})
        for line, text in lines.items():
            self.assertEqual(line_far(machine_with(), [0, 1, "return"], MOST, line), text)
        self.assertEqual(line_far(machine_with(), [0, 1, "return"], MOST, MOST), "")

    def test_lines_that_several_repetitions_print_in(self):
        strokes = [0, "return", "space", 1]
        self.check(machine_with(), strokes, 1, {0: "a", 1: " b"})
        self.check(machine_with(), strokes, 2, {0: "a", 1: " ba", 2: " b"})
        self.check(machine_with(), strokes, 3, {0: "a", 1: " ba", 2: " ba", 3: " b"})
        for line, text in ((1, " ba"), (MOST // 2, " ba"), (MOST - 1, " ba"), (MOST, " b"), (MOST + 1, "")):
            self.assertEqual(line_far(machine_with(), strokes, MOST, line), text)

    def test_several_repetitions_in_one_cell(self):
        strokes = ["back", "back", 0, "return", 1]
        self.check(machine_with(), strokes, 2, {0: "a", 1: "*", 2: "b"})

    def test_feed_2(self):
        machine = machine_with(("feed", 2))
        self.check(machine, [0, "return", 1], 3, {0: "a", 2: "ba", 4: "ba", 6: "b"})
        for line, text in ((2 * MOST, "b"), (2 * MOST - 1, ""), (2 * MOST - 2, "ba"), (2 * MOST + 2, "")):
            self.assertEqual(line_far(machine, [0, "return", 1], MOST, line), text)

    def test_several_lines_each_time(self):
        strokes = [0, "return", 1, "return", 2, "return"]
        self.check(machine_with(), strokes, 2, {0: "a", 1: "b", 2: "c", 3: "a", 4: "b", 5: "c"})
        far = 3 * (10 ** 17)
        for line, text in ((far, "a"), (far + 1, "b"), (far + 2, "c"), (3 * MOST - 1, "c"), (3 * MOST, "")):
            self.assertEqual(line_far(machine_with(), strokes, MOST, line), text)

    def test_first_repetitions_are_not_like_the_later_ones(self):
        strokes = [0, "return", "up", 1]
        self.check(machine_with(), strokes, 3, {0: "a", 1: "BA", 2: "BA", 3: "B"})
        self.assertEqual(line_far(machine_with(), strokes, MOST, MOST), "B")
        strokes = ["down", 0, "up", 1, "return"]
        self.check(machine_with(("down",)), strokes, 2, {0: "aB", 1: "AB"})
        self.assertEqual(line_far(machine_with(("down",)), strokes, MOST, 10 ** 17), "AB")

    def test_last_line_that_there_can_be(self):
        machine = machine_with(("feed", 2))
        strokes = ["return"] * 59 + [0]
        self.assertEqual(line_far(machine, strokes, MOST, 118 * MOST), "a")
        self.assertEqual(line_far(machine, strokes, MOST, 10 ** 21), "")


class WrongTest(unittest.TestCase):
    def test_numbers_out_of_range(self):
        for count in (-1, MOST + 1, True, False, 10 ** 30):
            with self.subTest(count=count):
                self.assertRaises(InvalidNumber, state_far, machine_with(), [0], count)
                self.assertRaises(InvalidNumber, line_far, machine_with(), [0], count, 0)
        for line in (-1, 10 ** 21 + 1, True, False):
            for count in (0, 1, MOST):
                with self.subTest(line=line, count=count):
                    self.assertRaises(InvalidNumber, line_far, machine_with(), [0, "return"], count, line)

    def test_strokes_go_ahead_of_numbers(self):
        wrong = [(0, [3]), (1, [0, True]), (60, [0] * 61), (2, ["up", 0, "x"] + [0] * 60)]
        for index, strokes in wrong:
            calls = [lambda: state_far(machine_with(), strokes, 1), lambda: state_far(machine_with(), strokes, -1),
                     lambda: line_far(machine_with(), strokes, 1, 0), lambda: line_far(machine_with(), strokes, -1, -1)]
            for call in calls:
                with self.assertRaises(InvalidStrokes) as caught:
                    call()
                self.assertEqual(caught.exception.index, index)

    def test_strokes_are_not_modified(self):
        strokes = [0, "return", 1]
        for _ in range(2):
            self.assertEqual(state_far(machine_with(), strokes, 7), (7, 1, False))
            self.assertEqual(line_far(machine_with(), tuple(strokes), 7, 6), "ba")
        self.assertEqual(strokes, [0, "return", 1])
