"""Points 1 and 19: machines that wear."""

import unittest

from typefault.cases import Case
from typefault.errors import InvalidStrokes, InvalidWears
from typefault.keyboards import Keyboard
from typefault.machines import Machine
from typefault.sheets import shown, typed
from typefault.wears import possible_wears, typed_worn

KEYBOARD = Keyboard(("aA", "bB", "cC"))


def machine_with(*faults, width=6):
    return Machine(KEYBOARD, width, faults)


class TypedWornTest(unittest.TestCase):
    def check(self, faults, wears, strokes, text):
        with self.subTest(faults=faults, wears=wears):
            self.assertEqual(shown(typed_worn(machine_with(*faults), wears, strokes)), text)

    def test_no_wears(self):
        for faults in ([], [("dead", 0), ("slip", 2)]):
            machine, strokes = machine_with(*faults), ["up", 1, 0, "return", 2]
            self.assertEqual(typed_worn(machine, [], strokes), typed(machine, strokes))

    def test_each_count(self):
        strokes = [0, 0, 1, 0]
        for count, text in enumerate(["  b", "a b", "aab", "aab", "aaba", "aaba"]):
            self.check([], [(count, ("dead", 0))], strokes, text)

    def test_count_0_is_like_a_fault_of_the_machine(self):
        strokes = ["up", 1, 0, "down", "space", 2, "back", "back", 0, "return", 1]
        for fault in (("back",), ("dead", 0), ("double", 1), ("down",), ("feed", 2), ("slip", 2), ("space",),
                      ("stuck", 0), ("swap", 0, 1), ("up",)):
            self.assertEqual(typed_worn(machine_with(), [(0, fault)], strokes), typed(machine_with(fault), strokes))

    def test_count_60_and_counts_behind_the_last_stroke(self):
        self.check([], [(60, ("dead", 0)), (2, ("dead", 1))], [1, 0], "ba")
        sheet = typed_worn(machine_with(), [(60, ("feed", 0))], ["return"] * 59 + [0])
        self.assertEqual(sheet, {(59, 0): "a"})
        sheet = typed_worn(machine_with(), [(59, ("dead", 0))], [0] + ["return"] * 58 + [0])
        self.assertEqual(sheet, {(0, 0): "a"})

    def test_lock_that_is_set_stays_set_when_up_comes(self):
        self.check([], [(1, ("up",))], ["up", 0, "down", 1, "up", 2], "Abc")
        self.check([], [(2, ("up",))], ["up", 0, 1], "AB")
        self.check([], [(1, ("up",))], ["up", "up", 0, "up", 1], "AB")
        self.check([], [(0, ("up",))], ["up", 0, 1], "ab")

    def test_lock_that_is_set_is_not_released_when_down_comes(self):
        self.check([], [(1, ("down",))], ["up", 0, "down", 1], "AB")
        self.check([], [(3, ("down",))], ["up", 0, "down", 1, "up", 2, "down", 0], "AbCA")
        self.check([], [(2, ("down",))], [0, 1, "down", 2], "abc")

    def test_carriage_stays_when_a_slip_comes_where_it_stands(self):
        self.check([], [(2, ("slip", 2))], [0, 1, 2, 0], "abca")
        self.check([], [(2, ("slip", 3))], [0, 1, 2, 0], "abc a")
        self.check([], [(1, ("slip", 2))], [0, 1, 2, 0], "ab ca")

    def test_several_wears_and_faults(self):
        wears = [(3, ("dead", 1)), (1, ("feed", 2)), (3, ("up",))]
        self.check([("double", 2)], wears, [1, "return", 2, 1, "up", 2], "b\n\ncc cc")

    def test_wears_in_any_order(self):
        wears = [(2, ("dead", 0)), (1, ("dead", 1)), (0, ("dead", 2))]
        for given in (wears, wears[::-1]):
            self.check([], given, [2, 1, 0, 1, 0], "")
            self.check([], given, [0, 0, 1, 2, 0], "aa")

    def test_invalid_strokes(self):
        for index, strokes in ((0, [3]), (1, (0, True)), (60, [0] * 61)):
            with self.assertRaises(InvalidStrokes) as caught:
                typed_worn(machine_with(), [(60, ("dead", 0))], strokes)
            self.assertEqual(caught.exception.index, index)

    def test_nothing_is_modified_and_answers_may_be(self):
        machine, wears, strokes = machine_with(("up",)), [(1, ("stuck", 1)), (0, ("back",))], [1, 1, 0]
        for _ in range(2):
            sheet = typed_worn(machine, wears, strokes)
            self.assertEqual(list(sheet.items()), [((0, 0), "b"), ((0, 1), "ab")])
            sheet.clear()
        self.assertEqual((wears, strokes), ([(1, ("stuck", 1)), (0, ("back",))], [1, 1, 0]))
        self.assertEqual(machine, machine_with(("up",)))


class InvalidWearsTest(unittest.TestCase):
    def check_wrong(self, machine, wears, index):
        for strokes in ([], [0], [9]):
            with self.subTest(wears=wears, strokes=strokes):
                with self.assertRaises(InvalidWears) as caught:
                    typed_worn(machine, wears, strokes)
                self.assertEqual(caught.exception.index, index)

    def test_counts(self):
        for count in (-1, 61, True, False, 10 ** 20):
            self.check_wrong(machine_with(), [(0, ("up",)), (count, ("dead", 0))], 1)

    def test_numbers_of_faults(self):
        wrong = [("dead", 3), ("dead", -1), ("stuck", True), ("double", 9), ("feed", 1), ("feed", False), ("slip", 0),
                 ("slip", 5), ("slip", True), ("swap", 1, 0), ("swap", 0, 3), ("swap", False, 1)]
        for fault in wrong:
            self.check_wrong(machine_with(), [(0, fault)], 0)
            self.check_wrong(machine_with(), [(60, ("up",)), (60, fault), (-1, fault)], 1)

    def test_clash_with_a_fault_of_the_machine(self):
        machine = machine_with(("up",), ("dead", 1), ("slip", 2))
        for fault in (("up",), ("down",), ("dead", 1), ("stuck", 1), ("swap", 0, 1), ("swap", 1, 2), ("slip", 2)):
            self.check_wrong(machine, [(60, fault)], 0)
            self.check_wrong(machine, [(0, ("back",)), (60, ("dead", 0)), (0, fault)], 2)

    def test_clash_with_an_earlier_wear_in_the_list(self):
        self.check_wrong(machine_with(), [(9, ("up",)), (3, ("down",))], 1)
        self.check_wrong(machine_with(), [(0, ("feed", 0)), (60, ("back",)), (60, ("feed", 2))], 2)
        self.check_wrong(machine_with(), [(5, ("slip", 2)), (5, ("slip", 3)), (6, ("slip", 2))], 2)
        self.check_wrong(machine_with(), [(5, ("swap", 0, 2)), (1, ("dead", 1)), (1, ("double", 2))], 2)

    def test_first_wrong_wear(self):
        clashing, out_of_range, late = (1, ("down",)), (1, ("dead", 3)), (61, ("back",))
        machine = machine_with(("up",))
        self.check_wrong(machine, [clashing, out_of_range, late], 0)
        self.check_wrong(machine, [(0, ("back",)), late, clashing], 1)
        self.check_wrong(machine, [(0, ("back",)), (0, ("space",)), out_of_range, late, clashing], 2)

    def test_wears_that_do_not_clash(self):
        wears = [(3, ("slip", 1)), (3, ("slip", 2)), (2, ("dead", 2)), (1, ("back",)), (0, ("space",))]
        self.assertEqual(typed_worn(machine_with(("up",), ("swap", 0, 1)), wears, [0]), {(0, 0): "b"})


class PossibleWearsTest(unittest.TestCase):
    def setUp(self):
        self.case = Case(KEYBOARD, 5, (("up",), ("stuck", 1), ("down",), ("dead", 0)), 0)

    def test_one_wear(self):
        self.assertEqual(possible_wears(self.case, [1, 1, 0], {(0, 0): "b", (0, 1): "ab"}), [(1, ("stuck", 1))])

    def test_ascending_by_count_then_fault(self):
        found = possible_wears(self.case, [2, "up", 0], {(0, 0): "c", (0, 1): "a"})
        self.assertEqual(found, [(0, ("up",)), (1, ("up",))])
        found = possible_wears(self.case, [2, 2], {(0, 0): "c", (0, 1): "c"})
        faults = [("dead", 0), ("down",), ("stuck", 1), ("up",)]
        self.assertEqual(found, [(count, fault) for count in (0, 1) for fault in faults])

    def test_sheet_of_a_machine_without_faults(self):
        found = possible_wears(self.case, ["up", 0, "down", 1], {(0, 0): "A", (0, 1): "b"})
        expected = [(0, ("stuck", 1)), (1, ("stuck", 1)), (1, ("up",)), (2, ("dead", 0)), (2, ("stuck", 1)),
                    (2, ("up",)), (3, ("dead", 0)), (3, ("down",)), (3, ("stuck", 1)), (3, ("up",))]
        self.assertEqual(found, expected)

    def test_counts_are_less_than_the_number_of_strokes(self):
        self.assertEqual(possible_wears(self.case, [1], {(0, 0): "b"}),
                         [(0, fault) for fault in sorted(self.case.pool)])
        self.assertEqual(possible_wears(self.case, [], {}), [])

    def test_sixty_strokes(self):
        strokes = ["return"] * 59 + [0]
        found = possible_wears(self.case, strokes, {})
        self.assertEqual(found, [(count, ("dead", 0)) for count in range(60)])

    def test_no_wear_and_empty_pool(self):
        self.assertEqual(possible_wears(self.case, [2], {(0, 0): "b"}), [])
        self.assertEqual(possible_wears(self.case, [2], {}), [])
        self.assertEqual(possible_wears(Case(KEYBOARD, 5, (), 4), [2], {(0, 0): "c"}), [])

    def test_whatever_the_case_says_of_how_many(self):
        for most in range(5):
            case = Case(KEYBOARD, 5, (("dead", 0),), most)
            self.assertEqual(possible_wears(case, (1, 0), {(0, 0): "b"}), [(0, ("dead", 0)), (1, ("dead", 0))])

    def test_invalid_strokes(self):
        for case in (self.case, Case(KEYBOARD, 5, (), 0)):
            for index, strokes in ((0, [3]), (1, [0, "x"]), (0, [False]), (60, [0] * 61)):
                with self.assertRaises(InvalidStrokes) as caught:
                    possible_wears(case, strokes, {})
                self.assertEqual(caught.exception.index, index)

    def test_nothing_is_modified_and_answers_may_be(self):
        strokes, sheet = [1, 1, 0], {(0, 1): "ab", (0, 0): "b"}
        for _ in range(2):
            found = possible_wears(self.case, strokes, sheet)
            self.assertEqual(found, [(1, ("stuck", 1))])
            found.clear()
        self.assertEqual((strokes, list(sheet)), ([1, 1, 0], [(0, 1), (0, 0)]))
