"""Points 1, 12 and 13: which strokes tell machines, or sets of faults, apart."""

import unittest

from typefault.apart import difference, groups, told_apart
from typefault.cases import Case, fault_sets
from typefault.errors import InvalidNumber, InvalidTests, UnlikeMachines
from typefault.keyboards import Keyboard
from typefault.machines import Machine

KEYBOARD = Keyboard(("aA", "bB", "cC"))


def machine_with(*faults, width=6):
    return Machine(KEYBOARD, width, faults)


class DifferenceTest(unittest.TestCase):
    def check(self, faults, others, strokes):
        """The strokes are the answer for each most from their number on, in both directions."""
        one, other = machine_with(*faults), machine_with(*others)
        for most in range(5):
            expected = strokes if len(strokes) <= most else None
            with self.subTest(faults=faults, others=others, most=most):
                self.assertEqual(difference(one, other, most), expected)
                self.assertEqual(difference(other, one, most), expected)

    def test_equal_machines(self):
        for faults in ([], [("dead", 0)], [("slip", 1), ("up",), ("feed", 2)]):
            for most in range(5):
                self.assertIsNone(difference(machine_with(*faults), machine_with(*faults), most))

    def test_one_stroke(self):
        self.check([("dead", 0)], [], [0])
        self.check([("dead", 2)], [], [2])
        self.check([("double", 1)], [("dead", 2)], [1])
        self.check([("swap", 1, 2)], [], [1])

    def test_two_strokes(self):
        self.check([("stuck", 0)], [], [0, 0])
        self.check([("stuck", 1)], [], [1, 0])
        self.check([("slip", 1)], [], [0, 0])
        self.check([("space",)], [], ["space", 0])
        self.check([("feed", 0)], [], ["return", 0])
        self.check([("feed", 0)], [("feed", 2)], ["return", 0])
        self.check([("up",)], [], ["up", 0])

    def test_three_strokes(self):
        self.check([("back",)], [], [0, "back", 0])
        self.check([("down",)], [], ["up", "down", 0])
        self.check([("slip", 2)], [], [0, 0, 0])

    def test_four_strokes(self):
        self.check([("slip", 3)], [], [0, 0, 0, 0])
        self.check([("down",), ("dead", 0)], [("dead", 0)], ["up", "down", 1])
        self.check([("back",), ("dead", 0)], [("dead", 0)], [0, "back", 1])
        self.check([("back",), ("space",), ("dead", 0), ("dead", 1), ("stuck", 2)],
                   [("space",), ("dead", 0), ("dead", 1), ("stuck", 2)], [0, "back", 2])

    def test_no_list_of_four_strokes(self):
        self.assertIsNone(difference(machine_with(("slip", 4)), machine_with(), 4))
        dead = [("dead", key) for key in range(3)]
        self.assertIsNone(difference(machine_with(("up",), *dead), machine_with(*dead), 4))

    def test_narrowest_carriage(self):
        one, other = machine_with(("stuck", 0), width=2), machine_with(("dead", 0), width=2)
        self.assertEqual(difference(one, other, 4), [0])
        self.assertEqual(difference(one, machine_with(width=2), 4), [0, 0])

    def test_a_new_list_each_time(self):
        one, other = machine_with(("stuck", 1)), machine_with()
        difference(one, other, 3).append(0)
        self.assertEqual(difference(one, other, 3), [1, 0])

    def test_unlike_machines(self):
        others = [machine_with(width=7), Machine(Keyboard(("aA", "bB")), 6, []),
                  Machine(Keyboard(("aA", "cC", "bB")), 6, [])]
        for other in others:
            for most in (0, 4, -1, 5, True):
                with self.assertRaises(UnlikeMachines):
                    difference(machine_with(), other, most)

    def test_machines_of_equal_keyboards(self):
        other = Machine(Keyboard(("aA", "bB", "cC")), 6, [("dead", 1)])
        self.assertEqual(difference(machine_with(), other, 1), [1])

    def test_numbers_out_of_range(self):
        for most in (-1, 5, True, False, 10 ** 20):
            with self.subTest(most=most):
                with self.assertRaises(InvalidNumber):
                    difference(machine_with(), machine_with(("dead", 0)), most)


class GroupsTest(unittest.TestCase):
    def setUp(self):
        self.case = Case(KEYBOARD, 5, (("stuck", 1), ("dead", 0), ("up",)), 2)
        self.dead, self.stuck, self.up = ("dead", 0), ("stuck", 1), ("up",)

    def test_no_tests(self):
        self.assertEqual(groups(self.case, []), [fault_sets(self.case)])
        self.assertEqual(told_apart(self.case, []), [])

    def test_no_tests_and_one_set(self):
        case = Case(KEYBOARD, 5, (("up",),), 0)
        self.assertEqual(groups(case, []), [[()]])
        self.assertEqual(told_apart(case, []), [()])

    def test_one_test(self):
        dead, stuck, up = self.dead, self.stuck, self.up
        expected = [[(), (stuck,), (up,), (stuck, up)], [(dead,), (dead, stuck), (dead, up)]]
        self.assertEqual(groups(self.case, [[0]]), expected)
        self.assertEqual(told_apart(self.case, [[0]]), [])

    def test_groups_are_in_the_order_of_their_first_sets(self):
        dead, stuck, up = self.dead, self.stuck, self.up
        expected = [[(), (dead,)], [(stuck,), (dead, stuck)], [(up,), (dead, up)], [(stuck, up)]]
        self.assertEqual(groups(self.case, [("up", 1, 1)]), expected)
        self.assertEqual(told_apart(self.case, [("up", 1, 1)]), [(stuck, up)])

    def test_several_tests(self):
        sets = fault_sets(self.case)
        self.assertEqual(groups(self.case, [[0], ["up", 1, 1]]), [[faults] for faults in sets])
        self.assertEqual(told_apart(self.case, [[0], ["up", 1, 1]]), sets)
        self.assertEqual(told_apart(self.case, [["up", 1, 1], [0], []]), sets)

    def test_tests_that_tell_nothing(self):
        for tests in ([[]], [[], []], [["back"], [2, "space"], ["return"]]):
            self.assertEqual(groups(self.case, tests), [fault_sets(self.case)])

    def test_a_new_sheet_for_each_test(self):
        self.assertEqual(len(groups(self.case, [["up"], [1]])), 1)

    def test_faults_that_clash(self):
        case = Case(KEYBOARD, 5, (("stuck", 0), ("dead", 0), ("swap", 0, 1)), 4)
        self.assertEqual(groups(case, [[0]]), [[(), (("stuck", 0),)], [(("dead", 0),)], [(("swap", 0, 1),)]])
        self.assertEqual(told_apart(case, [[0]]), [(("dead", 0),), (("swap", 0, 1),)])

    def test_invalid_tests(self):
        wrong = [(0, [[3]]), (1, [[0], [True], ["x"]]), (2, [[], [0] * 60, [0] * 61, [9]]), (0, [[0] * 61, [0]])]
        for index, tests in wrong:
            for call in (groups, told_apart):
                with self.subTest(call=call.__name__, tests=tests):
                    with self.assertRaises(InvalidTests) as caught:
                        call(self.case, tests)
                    self.assertEqual(caught.exception.index, index)

    def test_nothing_is_modified_and_answers_may_be(self):
        tests = [[0], ["up", 1, 1]]
        found = groups(self.case, tests)
        found[0].clear()
        found.clear()
        told_apart(self.case, tests).clear()
        self.assertEqual(tests, [[0], ["up", 1, 1]])
        self.assertEqual(len(groups(self.case, tests)), 7)
        self.assertEqual(len(told_apart(self.case, tests)), 7)
