"""Points 1, 3, 4, 6, 7 and 8: strokes, what comes out of them, and what is spoiled."""

import unittest

from typefault.errors import InvalidStrokes
from typefault.keyboards import Keyboard
from typefault.machines import Machine
from typefault.sheets import shown, spoiled, state_after, typed

KEYBOARD = Keyboard(("aA", "bB", "cC"))
CALLS = (state_after, typed, spoiled)


def machine_with(*faults, width=5):
    return Machine(KEYBOARD, width, faults)


class SheetCase(unittest.TestCase):
    def check(self, machine, strokes, text, state):
        """The text tells the sheet wherever no cell has several signs."""
        self.assertEqual(shown(typed(machine, strokes)), text)
        self.assertEqual(state_after(machine, strokes), state)

    def check_wrong(self, strokes, index, keyboard=KEYBOARD):
        for call in CALLS:
            for given in (list(strokes), tuple(strokes)):
                with self.subTest(call=call.__name__, strokes=given):
                    with self.assertRaises(InvalidStrokes) as caught:
                        call(Machine(keyboard, 5, [("up",)]), given)
                    self.assertEqual(caught.exception.index, index)
                    self.assertIs(type(caught.exception.index), int)


class StrokesTest(SheetCase):
    def test_no_strokes(self):
        for strokes in ([], ()):
            self.assertEqual(state_after(machine_with(), strokes), (0, 0, False))
            self.assertEqual(typed(machine_with(), strokes), {})
            self.assertEqual(spoiled(machine_with(("dead", 0)), strokes), [])

    def test_sixty_strokes(self):
        strokes = ["return"] * 59 + [2]
        self.assertEqual(state_after(machine_with(), strokes), (59, 1, False))
        self.assertEqual(typed(machine_with(), tuple(strokes)), {(59, 0): "c"})
        self.assertEqual(spoiled(machine_with(("dead", 2)), strokes), [(59, 0)])

    def test_sixty_one_strokes(self):
        self.check_wrong([0] * 61, 60)
        self.check_wrong(["space"] * 100, 60)

    def test_wrong_stroke_ahead_of_and_behind_the_sixty_first(self):
        self.check_wrong([0] * 7 + [3] + [0] * 60, 7)
        self.check_wrong([0] * 59 + ["left"] + [0] * 5, 59)
        self.check_wrong([0] * 60 + [3], 60)
        self.check_wrong([0] * 60 + ["up", 3], 60)
        self.check_wrong([0] * 70 + [3], 60)

    def test_numbers_that_are_no_keys(self):
        for stroke in (3, -1, 10, 10 ** 30, -(10 ** 30)):
            self.check_wrong([0, 2, stroke, stroke], 2)
        self.check_wrong([2, 1], 0, Keyboard(("aA", "bB")))
        ten = Keyboard(tuple("abcdefghij"[k] + "ABCDEFGHIJ"[k] for k in range(10)))
        self.assertEqual(typed(Machine(ten, 5, []), [9]), {(0, 0): "j"})
        self.check_wrong([9, 10], 1, ten)

    def test_booleans_are_no_strokes(self):
        self.check_wrong([True], 0)
        self.check_wrong([0, 1, False, True], 2)

    def test_words_that_are_no_strokes(self):
        for stroke in ("", "Up", "UP", "up ", "a", "0", "dead", "feed", "slip", "lock", "backspace", "a b"):
            self.check_wrong(["up", stroke], 1)

    def test_none_is_no_stroke(self):
        self.check_wrong([0, None], 1)

    def test_strokes_are_neither_modified_nor_kept(self):
        machine = machine_with(("double", 1))
        strokes = ["up", 1, "return", 2]
        for call in CALLS:
            first = call(machine, strokes)
            self.assertEqual(strokes, ["up", 1, "return", 2])
            self.assertEqual(call(machine, tuple(strokes)), first)

    def test_answers_may_be_modified(self):
        machine = machine_with(("dead", 1))
        sheet = typed(machine, [0, 1])
        sheet[(0, 0)] = "x"
        del sheet[(0, 0)]
        spoiled(machine, [0, 1]).clear()
        self.assertEqual(typed(machine, [0, 1]), {(0, 0): "a"})
        self.assertEqual(spoiled(machine, [0, 1]), [(0, 1)])
        self.assertEqual(machine.faults, (("dead", 1),))


class FaultlessTest(SheetCase):
    def test_keys_print_and_move(self):
        self.check(machine_with(), [0, 1, 2], "abc", (0, 3, False))

    def test_carriage_stays_at_the_last_column(self):
        self.check(machine_with(width=2), [0, 1], "ab", (0, 1, False))
        self.assertEqual(typed(machine_with(width=2), [0, 1, 2, 1]), {(0, 0): "a", (0, 1): "bc"})
        self.check(machine_with(width=2), ["space"] * 9 + [0], " a", (0, 1, False))

    def test_space_and_back(self):
        self.check(machine_with(), ["space", "space", 0], "  a", (0, 3, False))
        self.check(machine_with(), ["space", "space", "back", 0], " a", (0, 2, False))
        self.check(machine_with(), ["back", "back", 0, "back", "back", "back"], "a", (0, 0, False))

    def test_lever(self):
        self.check(machine_with(), [0, 1, "return", "return", 2], "ab\n\nc", (2, 1, False))

    def test_lock(self):
        self.check(machine_with(), [0, "up", 0, "up", 1, "return", 2], "aAB\nC", (1, 1, True))
        self.check(machine_with(), ["up", 0, "down", 1, "down", 2], "Abc", (0, 3, False))
        self.check(machine_with(), ["down", 0], "a", (0, 1, False))
        self.check(machine_with(), ["up", "down"], "", (0, 0, False))

    def test_kinds_of_values(self):
        for strokes in ([], ["up"], ["up", "down"], [0]):
            state = state_after(machine_with(), strokes)
            self.assertIs(type(state), tuple)
            self.assertEqual([type(value) for value in state], [int, int, bool])
        self.assertIs(type(typed(machine_with(), [0])), dict)

    def test_several_signs_in_one_cell(self):
        back = "back"
        sheet = typed(machine_with(), [2, back, 0, back, "up", 1, back, 0, back, "down", 0])
        self.assertEqual(sheet, {(0, 0): "ABac"})
        self.assertEqual(shown(sheet), "*")

    def test_same_sign_twice_in_one_cell_is_one(self):
        self.assertEqual(typed(machine_with(), [1, "back", 1]), {(0, 0): "b"})

    def test_order_of_cells(self):
        strokes = ["space", "space", 0, "back", "back", "back", 1, "return", "space", 2, "back", "back", 2]
        sheet = typed(machine_with(("feed", 2)), strokes)
        self.assertEqual(list(sheet.items()), [((0, 0), "b"), ((0, 2), "a"), ((2, 0), "c"), ((2, 1), "c")])

    def test_cells_of_later_lines_stand_behind_those_of_earlier_ones(self):
        strokes = ["space", "space", "space", 0, "return", 1] + ["return"] * 9 + [2]
        self.assertEqual(list(typed(machine_with(), strokes)), [(0, 3), (1, 0), (10, 0)])


class FaultsTest(SheetCase):
    def test_back_and_space(self):
        self.check(machine_with(("back",)), [0, "back", 1, "space", 2], "ab c", (0, 4, False))
        self.check(machine_with(("space",)), [0, "space", 1, "back", "back", "space"], "ab", (0, 0, False))

    def test_dead(self):
        self.check(machine_with(("dead", 1)), [0, 1, 2, "up", 1], "a c", (0, 4, True))

    def test_double(self):
        self.check(machine_with(("double", 1)), [0, 1, "up", 1], "abbBB", (0, 4, True))

    def test_double_at_the_last_columns(self):
        for before, sheet in ((3, {(0, 3): "b", (0, 4): "b"}), (4, {(0, 4): "b"})):
            strokes = ["space"] * before + [1]
            self.assertEqual(typed(machine_with(("double", 1)), strokes), sheet)
            self.assertEqual(state_after(machine_with(("double", 1)), strokes), (0, 4, False))

    def test_down(self):
        self.check(machine_with(("down",)), [0, "down", 0, "up", 1, "down", 2], "aaBC", (0, 4, True))

    def test_up(self):
        self.check(machine_with(("up",)), [0, "up", 1, "down", 2], "abc", (0, 3, False))

    def test_feed(self):
        self.check(machine_with(("feed", 0)), ["space", 0, "return", 1], "ba", (0, 1, False))
        self.check(machine_with(("feed", 2)), [0, "return", 1, "return"], "a\n\nb", (4, 0, False))

    def test_feed_0_prints_several_signs_in_one_cell(self):
        self.assertEqual(typed(machine_with(("feed", 0)), [1, "return", 0]), {(0, 0): "ab"})

    def test_slip_by_a_key_and_by_the_space_bar(self):
        self.check(machine_with(("slip", 2)), [0, 1, 2], "ab c", (0, 4, False))
        self.check(machine_with(("slip", 2)), ["space", "space", 2], "   c", (0, 4, False))
        self.check(machine_with(("slip", 1)), [0], "a", (0, 2, False))

    def test_slip_beside_slip(self):
        machine = machine_with(("slip", 1), ("slip", 2))
        self.check(machine, [0, 1], "a  b", (0, 4, False))
        self.check(machine_with(("slip", 1), ("slip", 3), width=6), [0, 1, 2], "a b c", (0, 5, False))

    def test_slip_up_to_the_last_column(self):
        self.check(machine_with(("slip", 3)), ["space", "space", 0, 1], "  a b", (0, 4, False))
        machine = machine_with(("slip", 1), ("slip", 2), ("slip", 3))
        self.check(machine, [0, 1, 1], "a   b", (0, 4, False))
        machine = Machine(KEYBOARD, 20, [("slip", column) for column in range(1, 19)])
        self.check(machine, ["space"], "", (0, 19, False))
        self.check(machine_with(("slip", 1), width=3), [0, 1], "a b", (0, 2, False))

    def test_no_slip_by_the_backspace_key_the_lever_or_a_key_that_stays(self):
        machine = machine_with(("slip", 2), ("slip", 1))
        self.check(machine, ["space", "back", 0], "  a", (0, 3, False))
        self.check(machine, ["space", "back", "back", 0], " a", (0, 3, False))
        self.check(machine, ["space", "back", "up", "down"], "", (0, 2, False))
        stuck = machine_with(("slip", 2), ("stuck", 0))
        self.check(stuck, ["space", "space", "back", 0], "  a", (0, 2, False))

    def test_slip_by_dead_and_double_keys(self):
        self.check(machine_with(("slip", 1), ("dead", 0)), [0, 1], "  b", (0, 3, False))
        self.check(machine_with(("slip", 1), ("double", 0)), [0], "a a", (0, 3, False))
        self.check(machine_with(("slip", 2), ("double", 0)), [0], "aa", (0, 3, False))
        self.check(machine_with(("slip", 1), ("slip", 3), ("double", 0)), [0], "a a", (0, 4, False))

    def test_stuck(self):
        self.assertEqual(typed(machine_with(("stuck", 1)), [1, 0, 1]), {(0, 0): "ab", (0, 1): "b"})
        self.check(machine_with(("stuck", 1)), [1, 1], "b", (0, 0, False))

    def test_stuck_at_the_last_column_and_ahead_of_a_slip(self):
        machine = machine_with(("stuck", 1), ("slip", 1))
        self.check(machine, [1, 1], "b", (0, 0, False))
        self.assertEqual(typed(machine, [1, 0, 1]), {(0, 0): "ab", (0, 2): "b"})
        self.check(machine, ["space"] * 4 + [1], "    b", (0, 4, False))

    def test_swap(self):
        machine = machine_with(("swap", 0, 2))
        self.check(machine, [0, 1, 2], "cba", (0, 3, False))
        self.check(machine, ["up", 0, 1, 2], "CBA", (0, 3, True))

    def test_two_swaps(self):
        keyboard = Keyboard(("aA", "bB", "cC", "dD"))
        machine = Machine(keyboard, 5, [("swap", 0, 3), ("swap", 1, 2)])
        self.check(machine, [0, 1, 2, 3], "dcba", (0, 4, False))

    def test_several_faults_together(self):
        machine = machine_with(("slip", 1), ("double", 0), ("dead", 2), ("down",), ("feed", 2), ("back",))
        strokes = [2, "up", 1, "down", "back", 0, "return", 0]
        self.check(machine, strokes, "  BAA\n\nA A", (2, 3, True))


class ShownTest(SheetCase):
    def test_empty_sheet(self):
        self.assertEqual(shown({}), "")

    def test_lines_are_cut_behind_their_last_signs(self):
        self.assertEqual(shown({(0, 3): "a", (1, 0): "b", (1, 4): "c"}), "   a\nb   c")

    def test_lines_in_which_nothing_was_printed(self):
        self.assertEqual(shown({(2, 1): "a"}), "\n\n a")
        self.assertEqual(shown({(0, 0): "a", (3, 0): "b"}), "a\n\n\nb")

    def test_several_signs(self):
        self.assertEqual(shown({(0, 0): "ab", (0, 1): "a", (0, 2): "ABc", (0, 4): "!a"}), "*a* *")

    def test_cells_in_any_order(self):
        sheet = {(1, 2): "c", (0, 1): "b", (1, 0): "a", (0, 0): "x"}
        self.assertEqual(shown(sheet), "xb\na c")
        self.assertEqual(list(sheet), [(1, 2), (0, 1), (1, 0), (0, 0)])

    def test_lines_beyond_those_of_a_list_of_strokes(self):
        self.assertEqual(shown({(300, 19): "Z"}), "\n" * 300 + " " * 19 + "Z")


class SpoiledTest(SheetCase):
    def test_no_faults(self):
        self.assertEqual(spoiled(machine_with(), [0, "up", 1, "return", 2]), [])

    def test_faults_that_spoil_nothing(self):
        machine = machine_with(("dead", 2), ("up",), ("slip", 3), ("feed", 0), ("back",))
        self.assertEqual(spoiled(machine, [0, 1]), [])

    def test_missing_superfluous_and_other_signs(self):
        self.assertEqual(spoiled(machine_with(("dead", 1)), [0, 1, 2]), [(0, 1)])
        self.assertEqual(spoiled(machine_with(("double", 2)), [0, 1, 2]), [(0, 3)])
        self.assertEqual(spoiled(machine_with(("swap", 0, 1)), [2, 0, 1, 2]), [(0, 1), (0, 2)])
        self.assertEqual(spoiled(machine_with(("stuck", 0)), [0, 0]), [(0, 1)])
        self.assertEqual(spoiled(machine_with(("stuck", 0)), [0, 1]), [(0, 0), (0, 1)])

    def test_several_signs_where_one_belongs(self):
        self.assertEqual(spoiled(machine_with(("back",)), [0, "back", 1]), [(0, 0), (0, 1)])
        self.assertEqual(spoiled(machine_with(("feed", 0)), [0, "return", 1]), [(0, 0), (1, 0)])

    def test_ascending(self):
        machine = machine_with(("feed", 2), ("double", 0))
        self.assertEqual(spoiled(machine, [1, 0, "return", 0]), [(0, 2), (1, 0), (2, 0), (2, 1)])

    def test_state_alone_spoils_nothing(self):
        self.assertEqual(spoiled(machine_with(("space",), ("feed", 2), ("up",)), ["space", "return", "up"]), [])
