"""Points 1, 14 and 15: typing a text in spite of faults, and what has to be repaired."""

import unittest

from typefault.errors import InvalidStrokes, InvalidText
from typefault.keyboards import Keyboard
from typefault.machines import Machine
from typefault.sheets import spoiled, typed
from typefault.working import guilty, harmless, least_repairs, strokes_for

KEYBOARD = Keyboard(("aA", "bB", "cC"))


def machine_with(*faults, width=6):
    return Machine(KEYBOARD, width, faults)


class StrokesForTest(unittest.TestCase):
    def check(self, faults, text, strokes, width=6):
        machine = machine_with(*faults, width=width)
        with self.subTest(faults=faults, text=text):
            self.assertEqual(strokes_for(machine, text), strokes)

    def check_wrong(self, text, index, keyboard=KEYBOARD):
        with self.subTest(text=text):
            with self.assertRaises(InvalidText) as caught:
                strokes_for(Machine(keyboard, 4, [("dead", 0)]), text)
            self.assertEqual(caught.exception.index, index)

    def test_empty_text_and_blanks_alone(self):
        for text in ("", " ", "     "):
            for width in (2, 6):
                self.check([], text, [], width)
                self.check([("space",), ("dead", 0), ("dead", 1), ("dead", 2)], text, [], width)

    def test_texts_on_a_machine_without_faults(self):
        self.check([], "a", [0])
        self.check([], "cab", [2, 0, 1])
        self.check([], "a b", [0, "space", 1])
        self.check([], "  c", ["space", "space", 2])
        self.check([], "abcab", [0, 1, 2, 0, 1])

    def test_blanks_at_the_end(self):
        self.check([], "ab   ", [0, 1])
        self.check([("space",)], "b ", [1])

    def test_blanks_behind_the_last_column(self):
        self.check([], "ab   ", [0, 1], 2)
        self.check([], "     ", [], 2)

    def test_signs_behind_the_last_column(self):
        self.check([], "abc", None, 2)
        self.check([], "  c", None, 2)
        self.check([], " c", ["space", 2], 2)
        self.check([], "aaaaa", None, 4)

    def test_lock(self):
        self.check([], "A", ["up", 0])
        self.check([], "aB", [0, "up", 1])
        self.check([], "Ab", ["up", 0, "down", 1])
        self.check([], "ABC", ["up", 0, 1, 2])
        self.check([("up",)], "aB", None)
        self.check([("down",)], "aA", [0, "up", 0])
        self.check([("down",)], "Aa", ["space", 0, "back", "back", "up", 0])
        self.check([("down",), ("back",)], "Aa", None)

    def test_dead_keys(self):
        self.check([("dead", 0)], "a", None)
        self.check([("dead", 0)], "A", None)
        self.check([("dead", 0)], " b", [0, 1])
        self.check([("dead", 0)], "b c", [1, 0, 2])
        self.check([("dead", 0), ("space",)], "  b", [0, 0, 1])

    def test_space_bar_that_does_not_move(self):
        self.check([("space",)], " b", None)
        self.check([("space",), ("stuck", 2)], "cb", None)
        self.check([("space",)], "ab", [0, 1])

    def test_double(self):
        self.check([("double", 0)], "aa", [0])
        self.check([("double", 0)], "aaa", [0, "back", 0])
        self.check([("double", 0)], "a", None)
        self.check([("double", 0)], "ab", None)
        self.check([("double", 0)], "ba", [1, 0], 2)

    def test_double_at_the_last_column(self):
        self.check([("double", 0)], " a", ["space", 0], 2)
        self.check([("double", 0)], "   ba", ["space", "space", "space", 1, 0], 5)

    def test_a_sign_printed_more_than_once_in_its_cell(self):
        self.check([("double", 0), ("space",)], "aaa", [0, "back", 0])

    def test_stuck(self):
        self.check([("stuck", 1)], "ba", [1, "space", 0])
        self.check([("stuck", 1), ("space",)], "ba", None)
        self.check([("stuck", 1), ("space",)], "ab", [0, 1])

    def test_slip(self):
        self.check([("slip", 1)], "ab", [0, "back", 1])
        self.check([("slip", 1), ("back",)], "ab", None)
        self.check([("slip", 1), ("back",)], "a b", [0, 1])
        self.check([("slip", 1), ("slip", 2)], "abc", [0, "back", 2, "back", "back", 1])

    def test_feed_0_comes_back_to_the_first_column(self):
        self.check([("feed", 0), ("back",), ("slip", 1)], "a b", [0, 1])
        self.check([("feed", 0), ("back",), ("down",)], "Aa", ["space", 0, "return", "up", 0])
        self.check([("feed", 2), ("back",), ("down",)], "Aa", None)

    def test_swap(self):
        self.check([("swap", 0, 2)], "abC", [2, 1, "up", 0])

    def test_least_list_in_the_order_of_strokes(self):
        self.check([("dead", 0), ("dead", 2)], " b", [0, 1])
        self.check([("dead", 2)], " b", [2, 1])
        self.check([("stuck", 0)], "aA", [0, "space", "up", 0])

    def test_nothing_else_comes_out(self):
        self.check([("double", 0), ("slip", 1)], "a a", [0])
        self.check([("double", 0), ("slip", 1)], "a", None)

    def test_more_than_sixty_strokes(self):
        machine = Machine(KEYBOARD, 20, [("slip", column) for column in range(1, 19)])
        strokes = strokes_for(machine, "abcab")
        self.assertEqual(len(strokes), 5 + 15 + 16 + 17 + 18)
        self.assertEqual(strokes[0], 0)
        self.assertEqual([stroke for stroke in strokes if stroke != "back"], [0, 1, 0, 2, 1])
        self.assertEqual(strokes[1:17], ["back"] * 15 + [1])

    def test_sixth_sign(self):
        self.check_wrong("aaaaaa", 5)
        self.check_wrong("      ", 5)
        self.check_wrong("abcabx", 5)
        self.check_wrong("abcabcx", 5)

    def test_signs_that_are_none(self):
        self.check_wrong("x", 0)
        self.check_wrong("ab\nc", 2)
        self.check_wrong("a *", 2)
        self.check_wrong("abcad", 4)
        self.check_wrong("a?aaaaa", 1)
        self.check_wrong("c", 0, Keyboard(("aA", "bB")))

    def test_a_new_list_each_time(self):
        machine = machine_with()
        for text in ("", "ab"):
            first = strokes_for(machine, text)
            expected = list(first)
            first.append(0)
            self.assertEqual(strokes_for(machine, text), expected)

    def test_what_comes_out(self):
        machine = machine_with(("slip", 2), ("stuck", 1), ("down",))
        self.assertEqual(typed(machine, strokes_for(machine, "ab Ca")),
                         {(0, 0): "a", (0, 1): "b", (0, 3): "C", (0, 4): "a"})


class LeastRepairsTest(unittest.TestCase):
    def check(self, faults, strokes, expected):
        with self.subTest(faults=faults, strokes=strokes):
            self.assertEqual(least_repairs(machine_with(*faults), strokes), expected)

    def test_no_faults(self):
        self.check([], [0, 1], (0, ()))
        self.check([], [], (0, ()))

    def test_faults_that_spoil_nothing(self):
        self.check([("dead", 2), ("up",), ("slip", 4)], [0, 1], (0, ()))
        self.check([("dead", 0)], [], (0, ()))

    def test_one_fault(self):
        self.check([("dead", 2), ("up",), ("slip", 4)], [0, 2], (1, (("dead", 2),)))

    def test_several_faults(self):
        self.check([("dead", 2), ("up",), ("slip", 1)], [2, 2], (2, (("dead", 2), ("slip", 1))))
        self.check([("up",), ("stuck", 0), ("dead", 2), ("feed", 2)], ["up", 0, 2, "return", 1],
                   (4, (("dead", 2), ("feed", 2), ("stuck", 0), ("up",))))

    def test_least_tuple_of_several(self):
        # Each of two slips is made up for by the backspace key; both together are not.
        strokes = ["space", "back", "back", 0]
        self.check([("slip", 1)], strokes, (0, ()))
        self.check([("slip", 2)], strokes, (0, ()))
        self.check([("slip", 2), ("slip", 1)], strokes, (1, (("slip", 1),)))
        self.check([("slip", 2), ("slip", 1), ("dead", 0)], strokes, (2, (("dead", 0), ("slip", 1))))

    def test_repairs_that_are_of_no_use_alone(self):
        self.check([("stuck", 0), ("slip", 1)], ["space", "back", 0, 1], (2, (("slip", 1), ("stuck", 0))))
        self.check([("space",), ("stuck", 1)], [0, 1, "space", 2], (2, (("space",), ("stuck", 1))))
        self.check([("feed", 2), ("slip", 1), ("dead", 2)], ["space", "return", 2],
                   (2, (("dead", 2), ("feed", 2))))

    def test_faults_that_make_up_for_each_other(self):
        self.check([("space",), ("back",)], ["space", "back", 0], (0, ()))
        self.check([("back",), ("slip", 2)], ["space", "back", 0], (1, (("back",),)))
        self.check([("double", 0), ("stuck", 1)], [0, "back", 1], (1, (("double", 0),)))
        self.check([("space",), ("back",), ("dead", 2)], [0, "space", "back", "back", 0], (1, (("back",),)))

    def test_kinds_of_values(self):
        number, faults = least_repairs(machine_with(("up",), ("dead", 0)), ["up", 0])
        self.assertEqual((type(number), type(faults)), (int, tuple))


class HarmlessAndGuiltyTest(unittest.TestCase):
    def test_no_faults(self):
        self.assertEqual(harmless(machine_with(), [0]), [])
        self.assertEqual(guilty(machine_with(), [0]), [])

    def test_no_strokes(self):
        machine = machine_with(("up",), ("dead", 0))
        self.assertEqual(harmless(machine, []), [("dead", 0), ("up",)])
        self.assertEqual(guilty(machine, []), [])

    def test_harmless_is_a_fault_alone(self):
        machine = machine_with(("space",), ("dead", 1), ("back",), ("up",), ("feed", 2))
        self.assertEqual(harmless(machine, ["space", "back", 0]), [("dead", 1), ("feed", 2), ("space",), ("up",)])
        self.assertEqual(spoiled(machine, ["space", "back", 0]), [])

    def test_guilty_is_a_fault_repaired_alone(self):
        machine = machine_with(("dead", 0), ("dead", 1), ("dead", 2), ("up",))
        self.assertEqual(guilty(machine, [0, 2]), [("dead", 0), ("dead", 2)])

    def test_fewer_spoiled_cells_are_enough(self):
        machine = machine_with(("dead", 1), ("swap", 0, 2))
        self.assertEqual(guilty(machine, [0, 1, 2]), [("dead", 1), ("swap", 0, 2)])

    def test_as_many_spoiled_cells_are_not_enough(self):
        machine = machine_with(("up",), ("dead", 0))
        self.assertEqual(spoiled(machine, ["up", 0]), [(0, 0)])
        self.assertEqual(harmless(machine, ["up", 0]), [])
        self.assertEqual(guilty(machine, ["up", 0]), [])

    def test_a_repair_may_spoil_more(self):
        machine = machine_with(("stuck", 0), ("dead", 1))
        self.assertEqual(spoiled(machine, [0, 1]), [(0, 1)])
        self.assertEqual(guilty(machine, [0, 1]), [])
        self.assertEqual(guilty(machine_with(("space",), ("back",)), ["space", "back", 0]), [])

    def test_faults_that_are_harmless_and_guilty(self):
        machine = machine_with(("slip", 2), ("slip", 1))
        for call in (harmless, guilty):
            self.assertEqual(call(machine, ["space", "back", "back", 0]), [("slip", 1), ("slip", 2)])


class InvalidStrokesTest(unittest.TestCase):
    def test_invalid_strokes(self):
        machines = [machine_with(), machine_with(("dead", 0), ("up",))]
        wrong = [(0, [3]), (1, [0, True]), (2, (0, "up", "x")), (60, [0] * 61), (59, [0] * 59 + [-1, 0, 0])]
        for call in (least_repairs, harmless, guilty):
            for machine in machines:
                for index, strokes in wrong:
                    with self.subTest(call=call.__name__, strokes=strokes):
                        with self.assertRaises(InvalidStrokes) as caught:
                            call(machine, strokes)
                        self.assertEqual(caught.exception.index, index)

    def test_nothing_is_modified_and_answers_may_be(self):
        machine, strokes = machine_with(("dead", 0), ("up",)), [0, 1]
        for call in (harmless, guilty):
            expected = list(call(machine, strokes))
            call(machine, tuple(strokes)).clear()
            self.assertEqual(call(machine, strokes), expected)
        self.assertEqual(strokes, [0, 1])
        self.assertEqual(machine.faults, (("dead", 0), ("up",)))
