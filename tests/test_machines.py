"""Points 1, 4 and 5: faults and machines."""

import itertools
import unittest

from typefault.errors import InvalidMachine
from typefault.keyboards import Keyboard
from typefault.machines import Machine

KEYBOARD = Keyboard(("aA", "bB", "cC", "dD"))
KEY_WORDS = ("dead", "double", "stuck")
PLAIN_WORDS = ("back", "down", "space", "up")


class MachineCase(unittest.TestCase):
    def check_wrong(self, call, part, index):
        with self.assertRaises(InvalidMachine) as caught:
            call()
        self.assertEqual((caught.exception.part, caught.exception.index), (part, index))
        self.assertIs(type(caught.exception.index), int)

    def check_range(self, right, wrong, width=6):
        for fault in right:
            with self.subTest(fault=fault, width=width):
                self.assertEqual(Machine(KEYBOARD, width, [fault]).faults, (fault,))
        for fault in wrong:
            with self.subTest(fault=fault, width=width):
                self.check_wrong(lambda: Machine(KEYBOARD, width, [fault]), "faults", 0)

    def check_clash(self, one, other):
        for first, second in ((one, other), (other, one)):
            with self.subTest(first=first, second=second):
                self.check_wrong(lambda: Machine(KEYBOARD, 6, [first, second]), "faults", 1)

    def check_no_clash(self, one, other):
        for faults in ([one, other], [other, one]):
            with self.subTest(faults=faults):
                self.assertEqual(Machine(KEYBOARD, 6, faults).faults, tuple(sorted(faults)))


class WidthTest(MachineCase):
    def test_widths_at_both_ends(self):
        for width in (2, 3, 19, 20):
            self.assertEqual(Machine(KEYBOARD, width, []).width, width)

    def test_widths_out_of_range(self):
        for width in (1, 21, 0, -2, 10 ** 30, True, False):
            with self.subTest(width=width):
                self.check_wrong(lambda: Machine(KEYBOARD, width, []), "width", 0)

    def test_width_goes_before_faults(self):
        self.check_wrong(lambda: Machine(KEYBOARD, 21, [("up",), ("dead", 4)]), "width", 0)
        self.check_wrong(lambda: Machine(KEYBOARD, 20, [("up",), ("dead", 4)]), "faults", 1)


class RangeTest(MachineCase):
    def test_faults_without_numbers(self):
        self.check_range([(word,) for word in PLAIN_WORDS], [])

    def test_keys(self):
        for word in KEY_WORDS:
            right = [(word, 0), (word, 3)]
            self.check_range(right, [(word, -1), (word, 4), (word, True), (word, False)])

    def test_keys_of_the_smallest_and_the_largest_keyboard(self):
        for count in (2, 10):
            keyboard = Keyboard(tuple("abcdefghij"[k] + "ABCDEFGHIJ"[k] for k in range(count)))
            for word in KEY_WORDS:
                self.assertEqual(Machine(keyboard, 4, [(word, count - 1)]).faults, ((word, count - 1),))
                self.check_wrong(lambda: Machine(keyboard, 4, [(word, count)]), "faults", 0)
            self.assertEqual(Machine(keyboard, 4, [("swap", 0, count - 1)]).faults, (("swap", 0, count - 1),))
            self.check_wrong(lambda: Machine(keyboard, 4, [("swap", 0, count)]), "faults", 0)

    def test_feed(self):
        wrong = [("feed", lines) for lines in (-1, 1, 3, True, False)]
        self.check_range([("feed", 0), ("feed", 2)], wrong)

    def test_slip(self):
        for width in (3, 4, 6, 20):
            wrong = [("slip", column) for column in (-1, 0, width - 1, width, True, False)]
            self.check_range([("slip", 1), ("slip", width - 2)], wrong, width)

    def test_slip_on_the_narrowest_carriage(self):
        self.check_range([], [("slip", column) for column in (-1, 0, 1, 2, True)], 2)

    def test_swap(self):
        right = [("swap", 0, 1), ("swap", 0, 3), ("swap", 2, 3)]
        wrong = [("swap", -1, 0), ("swap", -1, 3), ("swap", 0, 4), ("swap", 3, 4), ("swap", 4, 5)]
        wrong += [("swap", 1, 0), ("swap", 1, 1), ("swap", 0, 0), ("swap", 3, 0), ("swap", 3, 3)]
        wrong += [("swap", 0, True), ("swap", False, 1), ("swap", False, True), ("swap", 0, -1)]
        self.check_range(right, wrong)


class ClashTest(MachineCase):
    def test_equal_faults(self):
        for fault in [(word,) for word in PLAIN_WORDS] + [("slip", 2), ("feed", 0), ("dead", 1), ("swap", 0, 1)]:
            self.check_clash(fault, fault)

    def test_faults_of_one_key(self):
        for one, other in itertools.product(KEY_WORDS, KEY_WORDS):
            self.check_clash((one, 2), (other, 2))

    def test_swap_is_of_both_its_keys(self):
        for word in KEY_WORDS:
            self.check_clash(("swap", 1, 2), (word, 1))
            self.check_clash(("swap", 1, 2), (word, 2))
            self.check_no_clash(("swap", 1, 2), (word, 0))
            self.check_no_clash(("swap", 1, 2), (word, 3))
        self.check_clash(("swap", 0, 1), ("swap", 0, 2))
        self.check_clash(("swap", 0, 1), ("swap", 1, 2))
        self.check_clash(("swap", 0, 2), ("swap", 1, 2))
        self.check_no_clash(("swap", 0, 1), ("swap", 2, 3))
        self.check_no_clash(("swap", 0, 3), ("swap", 1, 2))

    def test_lock_and_feed(self):
        self.check_clash(("down",), ("up",))
        self.check_clash(("feed", 0), ("feed", 2))

    def test_faults_that_do_not_clash(self):
        self.check_no_clash(("slip", 1), ("slip", 2))
        self.check_no_clash(("slip", 2), ("dead", 2))
        self.check_no_clash(("feed", 2), ("stuck", 2))
        self.check_no_clash(("back",), ("space",))
        self.check_no_clash(("up",), ("feed", 0))
        for one, other in itertools.product(KEY_WORDS, KEY_WORDS):
            self.check_no_clash((one, 0), (other, 3))

    def test_a_clash_with_any_earlier_fault_counts(self):
        faults = [("dead", 0), ("up",), ("slip", 1), ("down",)]
        self.check_wrong(lambda: Machine(KEYBOARD, 6, faults), "faults", 3)
        faults = [("dead", 0), ("up",), ("slip", 1), ("swap", 0, 3)]
        self.check_wrong(lambda: Machine(KEYBOARD, 6, faults), "faults", 3)

    def test_wrong_fault_behind_one_that_clashes_and_the_other_way_round(self):
        clashing, wrong = [("up",), ("down",)], ("slip", 9)
        self.check_wrong(lambda: Machine(KEYBOARD, 6, clashing + [wrong]), "faults", 1)
        self.check_wrong(lambda: Machine(KEYBOARD, 6, [wrong] + clashing), "faults", 0)
        self.check_wrong(lambda: Machine(KEYBOARD, 6, [("up",), wrong, ("down",)]), "faults", 1)

    def test_boolean_is_out_of_range_and_no_clash(self):
        self.check_wrong(lambda: Machine(KEYBOARD, 6, [("dead", True), ("dead", 1)]), "faults", 0)


class PropertiesTest(MachineCase):
    def test_properties(self):
        machine = Machine(KEYBOARD, 7, (("up",), ("stuck", 2), ("stuck", 0), ("slip", 5), ("back",), ("feed", 2)))
        self.assertEqual(machine.keyboard, KEYBOARD)
        self.assertEqual(machine.width, 7)
        expected = (("back",), ("feed", 2), ("slip", 5), ("stuck", 0), ("stuck", 2), ("up",))
        self.assertEqual(machine.faults, expected)
        self.assertIs(type(machine.faults), tuple)

    def test_no_faults(self):
        self.assertEqual(Machine(KEYBOARD, 7, []).faults, ())
        self.assertEqual(Machine(KEYBOARD, 7, ()).faults, ())

    def test_arguments_are_not_modified_and_not_kept(self):
        faults = [("up",), ("back",)]
        machine = Machine(KEYBOARD, 7, faults)
        self.assertEqual(faults, [("up",), ("back",)])
        faults.append(("space",))
        self.assertEqual(machine.faults, (("back",), ("up",)))

    def test_methods_are_defined_in_the_class(self):
        for name in ("with_fault", "repaired", "__eq__"):
            self.assertIn(name, vars(Machine))
        self.assertEqual(Machine.__module__, "typefault.machines")


class WithFaultTest(MachineCase):
    def test_with_fault(self):
        machine = Machine(KEYBOARD, 7, [("up",), ("dead", 1)])
        more = machine.with_fault(("double", 2))
        self.assertEqual(more, Machine(KEYBOARD, 7, [("dead", 1), ("double", 2), ("up",)]))
        self.assertEqual(more.faults, (("dead", 1), ("double", 2), ("up",)))
        self.assertEqual(machine.faults, (("dead", 1), ("up",)))

    def test_with_fault_out_of_range(self):
        machine = Machine(KEYBOARD, 7, [("up",), ("dead", 1)])
        for fault in (("dead", 4), ("slip", 6), ("slip", True), ("feed", 1), ("swap", 3, 2)):
            with self.subTest(fault=fault):
                self.check_wrong(lambda: machine.with_fault(fault), "faults", 2)
        self.check_wrong(lambda: Machine(KEYBOARD, 7, []).with_fault(("dead", -1)), "faults", 0)

    def test_with_fault_that_clashes(self):
        machine = Machine(KEYBOARD, 7, [("up",), ("dead", 1), ("slip", 2)])
        for fault in (("up",), ("down",), ("dead", 1), ("stuck", 1), ("swap", 0, 1), ("slip", 2)):
            with self.subTest(fault=fault):
                self.check_wrong(lambda: machine.with_fault(fault), "faults", 3)

    def test_error_changes_nothing_and_calls_can_be_repeated(self):
        machine = Machine(KEYBOARD, 7, [("up",)])
        for _ in range(2):
            self.check_wrong(lambda: machine.with_fault(("down",)), "faults", 1)
            self.assertEqual(machine, Machine(KEYBOARD, 7, [("up",)]))
            self.assertEqual(machine.with_fault(("back",)).faults, (("back",), ("up",)))


class RepairedTest(MachineCase):
    def setUp(self):
        self.machine = Machine(KEYBOARD, 7, [("up",), ("dead", 1), ("slip", 2), ("slip", 3)])

    def test_some_faults(self):
        left = self.machine.repaired([("up",), ("slip", 3)])
        self.assertEqual(left, Machine(KEYBOARD, 7, [("dead", 1), ("slip", 2)]))
        self.assertEqual(len(self.machine.faults), 4)

    def test_none_and_all(self):
        self.assertEqual(self.machine.repaired([]), self.machine)
        self.assertEqual(self.machine.repaired(self.machine.faults), Machine(KEYBOARD, 7, []))

    def test_faults_that_the_machine_has_not_mean_nothing(self):
        others = [("down",), ("dead", 0), ("stuck", 1), ("slip", 99), ("swap", 1, 0), ("back",), ("back",)]
        self.assertEqual(self.machine.repaired(others), self.machine)
        self.assertEqual(self.machine.repaired(tuple(others + [("up",)])).faults,
                         (("dead", 1), ("slip", 2), ("slip", 3)))

    def test_argument_is_not_modified(self):
        faults = [("up",), ("down",), ("up",)]
        self.machine.repaired(faults)
        self.assertEqual(faults, [("up",), ("down",), ("up",)])


class EqualityTest(MachineCase):
    def test_equal(self):
        one = Machine(KEYBOARD, 7, [("up",), ("back",)])
        other = Machine(Keyboard(("aA", "bB", "cC", "dD")), 7, (("back",), ("up",)))
        self.assertTrue(one == other)
        self.assertFalse(one != other)

    def test_not_equal(self):
        machine = Machine(KEYBOARD, 7, [("up",)])
        self.assertTrue(machine != Machine(KEYBOARD, 8, [("up",)]))
        self.assertTrue(machine != Machine(KEYBOARD, 7, []))
        self.assertTrue(machine != Machine(KEYBOARD, 7, [("down",)]))
        self.assertTrue(machine != Machine(Keyboard(("aA", "bB", "cC", "dE")), 7, [("up",)]))

    def test_other_values_are_not_equal(self):
        self.assertFalse(Machine(KEYBOARD, 7, []) == (KEYBOARD, 7, ()))
        self.assertFalse(Machine(KEYBOARD, 7, []) == None)  # noqa: E711
        self.assertFalse(Machine(KEYBOARD, 7, []) == KEYBOARD)
