"""Points 1 and 21: several machines."""

import unittest

from typefault.apart import difference
from typefault.errors import InvalidEvidence, InvalidMachines, InvalidNumber
from typefault.keyboards import Keyboard
from typefault.machines import Machine
from typefault.sheets import typed
from typefault.several import assignment_count, could_be, telling_strokes

KEYBOARD = Keyboard(("aA", "bB", "cC"))
A = {(0, 0): "a"}
CALLS = [(could_be, []), (assignment_count, []), (telling_strokes, 3)]


def machine_with(*faults, width=5, keyboard=KEYBOARD):
    return Machine(keyboard, width, faults)


PLAIN, DEAD, STUCK = machine_with(), machine_with(("dead", 0)), machine_with(("stuck", 0))
OTHER_WIDTH = machine_with(width=6)
OTHER_KEYS = machine_with(keyboard=Keyboard(("aA", "bB", "cD")))


class CouldBeTest(unittest.TestCase):
    def test_no_evidence(self):
        self.assertEqual(could_be([PLAIN, DEAD], []), [0, 1])
        self.assertEqual(could_be([PLAIN] * 6, []), [0, 1, 2, 3, 4, 5])

    def test_one_tuple(self):
        machines = [PLAIN, DEAD, STUCK]
        self.assertEqual(could_be(machines, [([0], A)]), [0, 2])
        self.assertEqual(could_be(machines, [([0], {})]), [1])
        self.assertEqual(could_be(machines, [([1], A)]), [])
        self.assertEqual(could_be(machines, [([], {})]), [0, 1, 2])

    def test_all_of_several_tuples(self):
        machines = [PLAIN, DEAD, STUCK, PLAIN]
        self.assertEqual(could_be(machines, [([0], A), ((0, 0), {(0, 0): "a", (0, 1): "a"})]), [0, 3])
        self.assertEqual(could_be(machines, [([0], A), ([0, 0], A)]), [2])
        self.assertEqual(could_be(machines, [([0], A), ([0], {})]), [])
        self.assertEqual(could_be(machines, [([0], A)] * 9), [0, 2, 3])

    def test_equal_machines_and_six(self):
        machines = [DEAD, PLAIN, DEAD, PLAIN, STUCK, STUCK]
        self.assertEqual(could_be(machines, [([0], {})]), [0, 2])
        self.assertEqual(could_be(machines, [([0], A)]), [1, 3, 4, 5])

    def test_sheets_in_any_order_of_cells(self):
        self.assertEqual(could_be((PLAIN, STUCK), [([0, 1], {(0, 1): "b", (0, 0): "a"})]), [0])


class AssignmentCountTest(unittest.TestCase):
    def test_no_evidence(self):
        for machines in ([PLAIN, DEAD], [PLAIN] * 6):
            self.assertEqual(assignment_count(machines, []), 1)

    def test_one_tuple(self):
        machines = [PLAIN, DEAD, STUCK, PLAIN]
        self.assertEqual(assignment_count(machines, [([0], A)]), 3)
        self.assertEqual(assignment_count(machines, [([0], {})]), 1)
        self.assertEqual(assignment_count(machines, [([1], A)]), 0)

    def test_each_sheet_comes_from_another_machine(self):
        machines = [PLAIN, DEAD, STUCK]
        self.assertEqual(assignment_count(machines, [([0], A), ([0], A)]), 2)
        self.assertEqual(assignment_count(machines, [([0], A), ([0], {})]), 2)
        self.assertEqual(assignment_count(machines, [([0], {}), ([0], {})]), 0)
        self.assertEqual(assignment_count(machines, [([], {}), ([0], A)]), 4)
        self.assertEqual(assignment_count(machines, [([], {}), ([0], A), ([0, 0], A)]), 1)

    def test_equal_machines_are_different_ones(self):
        self.assertEqual(assignment_count([PLAIN] * 6, [([0], A)] * 6), 720)
        self.assertEqual(assignment_count([PLAIN] * 6, [([0], A)] * 2), 30)
        self.assertEqual(assignment_count([PLAIN, PLAIN], [([0], A), ([1], {(0, 0): "b"})]), 2)

    def test_more_sheets_than_machines(self):
        self.assertEqual(assignment_count([PLAIN, PLAIN], [([0], A)] * 2), 2)
        self.assertEqual(assignment_count([PLAIN, PLAIN], [([0], A)] * 3), 0)
        self.assertEqual(assignment_count([PLAIN] * 6, [([0], A)] * 7), 0)
        self.assertEqual(assignment_count([PLAIN] * 6, [([0], A)] * 200), 0)


class TellingStrokesTest(unittest.TestCase):
    def test_two_machines_are_told_as_by_difference(self):
        for one, other in ((PLAIN, DEAD), (PLAIN, STUCK), (DEAD, STUCK), (PLAIN, machine_with(("down",)))):
            for most in range(4):
                self.assertEqual(telling_strokes([one, other], most), difference(one, other, most))

    def test_a_list_of_each_length(self):
        self.assertEqual(telling_strokes([PLAIN, DEAD], 3), [0])
        self.assertEqual(telling_strokes([PLAIN, DEAD, STUCK], 3), [0, 0])
        self.assertEqual(telling_strokes([PLAIN, DEAD, machine_with(("up",))], 3), ["up", 0])
        self.assertEqual(telling_strokes([PLAIN, machine_with(("down",))], 3), ["up", "down", 0])
        self.assertEqual(telling_strokes([PLAIN, DEAD, STUCK, machine_with(("dead", 1))], 3), [0, 1])
        self.assertEqual(telling_strokes([PLAIN, DEAD, machine_with(("dead", 1)), machine_with(("dead", 2))], 3),
                         [0, 1, 2])

    def test_none_of_so_many_strokes(self):
        self.assertIsNone(telling_strokes([PLAIN, DEAD], 0))
        self.assertIsNone(telling_strokes([PLAIN, DEAD, STUCK], 1))
        self.assertIsNone(telling_strokes([PLAIN, machine_with(("down",))], 2))
        self.assertIsNone(telling_strokes([PLAIN, machine_with(("slip", 3))], 3))

    def test_equal_machines(self):
        self.assertIsNone(telling_strokes([PLAIN, PLAIN], 3))
        self.assertIsNone(telling_strokes([PLAIN, DEAD, STUCK, DEAD], 3))

    def test_six_machines(self):
        machines = [machine_with(*faults) for faults in
                    ((), (("dead", 0),), (("stuck", 0),), (("double", 0),), (("swap", 0, 1),), (("swap", 0, 2),))]
        found = telling_strokes(machines, 3)
        self.assertEqual(found, [0, 0])
        sheets = [typed(machine, found) for machine in machines]
        self.assertTrue(all(sheets.count(sheet) == 1 for sheet in sheets))

    def test_numbers_out_of_range(self):
        for machines in ([PLAIN, DEAD], [PLAIN, PLAIN]):
            for most in (-1, 4, -10 ** 20, 10 ** 20):
                self.assertRaises(InvalidNumber, telling_strokes, machines, most)


class ErrorsTest(unittest.TestCase):
    def check_machines(self, machines, index):
        for call, argument in CALLS + [(could_be, [([9], {})]), (assignment_count, [([9], {})]),
                                       (telling_strokes, -1), (telling_strokes, 4)]:
            with self.subTest(call=call.__name__, argument=argument, index=index):
                with self.assertRaises(InvalidMachines) as caught:
                    call(machines, argument)
                self.assertIs(type(caught.exception), InvalidMachines)
                self.assertEqual(caught.exception.index, index)

    def test_too_few(self):
        self.check_machines([], 0)
        self.check_machines([PLAIN], 1)

    def test_seven(self):
        self.check_machines([PLAIN] * 7, 6)
        self.check_machines([PLAIN] * 9, 6)
        for call, argument in CALLS:
            call([PLAIN] * 6, argument)

    def test_another_keyboard_or_width(self):
        for other in (OTHER_WIDTH, OTHER_KEYS):
            self.check_machines([PLAIN, other], 1)
            self.check_machines([other, PLAIN, DEAD], 1)
            self.check_machines([PLAIN, DEAD, other, PLAIN, other], 2)
            self.check_machines([PLAIN] * 5 + [other], 5)

    def test_another_one_ahead_of_and_behind_the_seventh(self):
        for other in (OTHER_WIDTH, OTHER_KEYS):
            self.check_machines([PLAIN] * 5 + [other] + [PLAIN] * 3, 5)
            self.check_machines([PLAIN] * 6 + [other], 6)
            self.check_machines([PLAIN] * 7 + [other], 6)

    def test_keyboards_that_are_equal(self):
        machines = [PLAIN, machine_with(("dead", 0), keyboard=Keyboard(("aA", "bB", "cC")))]
        self.assertEqual(could_be(machines, [([0], A)]), [0])

    def test_invalid_evidence(self):
        for call in (could_be, assignment_count):
            for evidence, index in (([([3], {})], 0), ([([0], {}), ([0, True], A)], 1), ([([0] * 61, {})], 0)):
                with self.assertRaises(InvalidEvidence) as caught:
                    call([PLAIN, DEAD], evidence)
                self.assertEqual(caught.exception.index, index)

    def test_nothing_is_modified_and_answers_may_be(self):
        machines, evidence = [PLAIN, DEAD, STUCK], [([0], {(0, 0): "a"})]
        for _ in range(2):
            could_be(machines, evidence).append(7)
            self.assertEqual(could_be(machines, evidence), [0, 2])
            telling_strokes(machines, 3).clear()
            self.assertEqual(telling_strokes(machines, 3), [0, 0])
            self.assertEqual(assignment_count(machines, evidence), 2)
        self.assertEqual((machines, evidence), ([PLAIN, DEAD, STUCK], [([0], {(0, 0): "a"})]))
