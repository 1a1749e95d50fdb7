"""Points 1 and 25: a covered sheet that is revealed cell by cell."""

import unittest

from typefault.cases import Case, fault_sets
from typefault.errors import InvalidCell, InvalidStrokes, NoFit
from typefault.keyboards import Keyboard
from typefault.reveals import Reveal

KEYBOARD = Keyboard(("aA", "bB", "cC"))
DEAD, STUCK, UP, SLIP = ("dead", 0), ("stuck", 1), ("up",), ("slip", 2)
CASE = Case(KEYBOARD, 5, (DEAD, STUCK, UP), 2)
# Without faults this gives abbC; with DEAD " bbC", with STUCK a, then b, b and C in one cell, with UP abbc.
STROKES = [0, 1, 1, "up", 2]


class RevealTestCase(unittest.TestCase):
    def check_error(self, reveal, error, cell, signs):
        before = (reveal.left, reveal.seen_cells, reveal.best_cell())
        with self.assertRaises(error) as caught:
            reveal.see(cell, signs)
        self.assertIs(type(caught.exception), error)
        self.assertEqual((reveal.left, reveal.seen_cells, reveal.best_cell()), before)


class SeeTest(RevealTestCase):
    def test_at_first_all_sets_are_left(self):
        reveal = Reveal(CASE, STROKES)
        self.assertEqual(reveal.left, tuple(fault_sets(CASE)))
        self.assertEqual(reveal.seen_cells, [])

    def test_what_is_left(self):
        reveal = Reveal(CASE, STROKES)
        self.assertEqual(reveal.see((0, 3), "C"), 2)
        self.assertEqual(reveal.left, ((), (DEAD,)))
        self.assertEqual(reveal.see((0, 0), ""), 1)
        self.assertEqual(reveal.left, ((DEAD,),))
        self.assertEqual(reveal.seen_cells, [(0, 3), (0, 0)])

    def test_several_signs_and_none(self):
        reveal = Reveal(CASE, STROKES)
        self.assertEqual(reveal.see((0, 1), "Cb"), 2)
        self.assertEqual(reveal.left, ((STUCK,), (DEAD, STUCK)))
        reveal = Reveal(CASE, STROKES)
        self.assertEqual(reveal.see((0, 3), ""), 3)
        self.assertEqual(reveal.left, ((STUCK,), (DEAD, STUCK), (STUCK, UP)))

    def test_a_cell_that_is_seen_twice(self):
        reveal = Reveal(CASE, STROKES)
        self.assertEqual([reveal.see((0, 0), "a"), reveal.see((0, 0), "a"), reveal.see((0, 4), "")], [4, 4, 4])
        self.assertEqual(reveal.seen_cells, [(0, 0), (0, 0), (0, 4)])
        self.check_error(reveal, NoFit, (0, 0), "")

    def test_signs_that_no_set_has(self):
        reveal = Reveal(CASE, STROKES)
        for cell, signs in (((0, 0), "b"), ((0, 0), "ab"), ((0, 0), "?"), ((0, 1), ""), ((0, 1), "bC"), ((0, 4), "a"),
                            ((1, 0), "a"), ((10 ** 9, 0), "a")):
            self.check_error(reveal, NoFit, cell, signs)
        # No set is left that has both, though one has each.
        reveal.see((0, 0), "")
        reveal.see((0, 3), "c")
        self.check_error(reveal, NoFit, (0, 1), "bc")

    def test_lines(self):
        for line in (0, 1, 60, 10 ** 9):
            reveal = Reveal(CASE, [2])
            self.assertEqual(reveal.see((line, 1), ""), 7)
            self.assertEqual(reveal.seen_cells, [(line, 1)])
        for line in (-1, 10 ** 9 + 1, -10 ** 20, 10 ** 20):
            for signs in ("", "a"):
                self.check_error(Reveal(CASE, STROKES), InvalidCell, (line, 1), signs)

    def test_columns(self):
        for width in (2, 5, 20):
            reveal = Reveal(Case(KEYBOARD, width, (DEAD,), 1), [])
            self.assertEqual([reveal.see((0, 0), ""), reveal.see((0, width - 1), "")], [2, 2])
            for column in (-1, width, -10 ** 20, 10 ** 20):
                for signs in ("", "a"):
                    self.check_error(reveal, InvalidCell, (0, column), signs)
                    self.check_error(reveal, InvalidCell, (10 ** 9, column), signs)

    def test_lines_behind_each_other(self):
        case = Case(KEYBOARD, 4, (("feed", 0), ("feed", 2), DEAD), 2)
        reveal = Reveal(case, [1, "return", 0])
        self.assertEqual(reveal.see((2, 0), "a"), 1)
        self.assertEqual(reveal.left, ((("feed", 2),),))
        reveal = Reveal(case, [1, "return", 0])
        self.assertEqual(reveal.see((1, 0), ""), 5)
        self.assertEqual(reveal.see((0, 0), "ab"), 1)


class BestCellTest(RevealTestCase):
    def test_the_fewest_in_the_worst_case(self):
        # Behind (0, 0) four sets at most are left, behind (0, 1) four, behind (0, 2) four, behind (0, 3) three.
        reveal = Reveal(CASE, STROKES)
        self.assertEqual(reveal.best_cell(), (0, 3))
        reveal.see((0, 3), "C")
        self.assertEqual(reveal.best_cell(), (0, 0))

    def test_the_first_of_several(self):
        case = Case(KEYBOARD, 5, (DEAD, STUCK), 1)
        reveal = Reveal(case, [0, 1, 1])
        self.assertEqual(reveal.best_cell(), (0, 0))
        # Lines go ahead of columns.
        reveal = Reveal(Case(KEYBOARD, 5, (DEAD,), 1), [1, 2, 0, "return", 0])
        self.assertEqual(reveal.best_cell(), (0, 2))
        reveal = Reveal(Case(KEYBOARD, 5, (DEAD,), 1), [1, "return", 1, 0, "return", 0])
        self.assertEqual(reveal.best_cell(), (1, 1))

    def test_a_cell_that_some_sheets_do_not_have(self):
        reveal = Reveal(Case(KEYBOARD, 5, (SLIP,), 1), [0, 1, 2])
        self.assertEqual(reveal.best_cell(), (0, 2))
        reveal = Reveal(Case(KEYBOARD, 5, (("double", 0),), 1), [1, 0])
        self.assertEqual(reveal.best_cell(), (0, 2))

    def test_none_can_tell(self):
        self.assertIsNone(Reveal(CASE, []).best_cell())
        self.assertIsNone(Reveal(CASE, [2]).best_cell())
        self.assertIsNone(Reveal(CASE, ["up", "space", "back"]).best_cell())
        reveal = Reveal(CASE, [0, 1, 1])
        reveal.see((0, 0), "a")
        reveal.see((0, 2), "b")
        self.assertEqual(reveal.left, ((), (UP,)))
        self.assertIsNone(reveal.best_cell())

    def test_one_set(self):
        for case in (Case(KEYBOARD, 5, (DEAD, UP), 0), Case(KEYBOARD, 5, (), 4)):
            reveal = Reveal(case, STROKES)
            self.assertEqual(reveal.left, ((),))
            self.assertIsNone(reveal.best_cell())
            self.assertEqual(reveal.see((0, 0), "a"), 1)
            self.check_error(reveal, NoFit, (0, 0), "")

    def test_it_sees_nothing(self):
        reveal = Reveal(CASE, STROKES)
        for _ in range(3):
            self.assertEqual(reveal.best_cell(), (0, 3))
        self.assertEqual((len(reveal.left), reveal.seen_cells), (7, []))


class ErrorsTest(unittest.TestCase):
    def test_invalid_strokes(self):
        for strokes, index in (([3], 0), ((0, "x"), 1), ([0, True], 1), ([0] * 61, 60), (["up"] * 60 + [9], 60)):
            with self.assertRaises(InvalidStrokes) as caught:
                Reveal(CASE, strokes)
            self.assertEqual(caught.exception.index, index)

    def test_no_strokes_and_sixty(self):
        reveal = Reveal(CASE, [])
        self.assertEqual((len(reveal.left), reveal.best_cell(), reveal.see((0, 0), "")), (7, None, 7))
        reveal = Reveal(CASE, tuple(["space", "back"] * 29 + ["up", 0]))
        self.assertEqual(reveal.see((0, 0), "A"), 2)

    def test_what_is_handed_in_and_returned_may_be_changed(self):
        strokes = list(STROKES)
        reveal = Reveal(CASE, strokes)
        self.assertEqual(strokes, STROKES)
        strokes.clear()
        reveal.see((0, 3), "C")
        for _ in range(2):
            reveal.seen_cells.append((0, 4))
            self.assertEqual(reveal.seen_cells, [(0, 3)])
            self.assertEqual(reveal.left, ((), (DEAD,)))
            self.assertIs(type(reveal.left), tuple)

    def test_two_reveals_share_nothing(self):
        one, other = Reveal(CASE, STROKES), Reveal(CASE, STROKES)
        one.see((0, 3), "C")
        self.assertEqual((len(other.left), other.seen_cells), (7, []))
