"""Points 1 and 20: the strokes of texts, and which text was meant."""

import unittest

from typefault.errors import InvalidText, InvalidTexts
from typefault.keyboards import Keyboard
from typefault.machines import Machine
from typefault.texts import confused, meant, strokes_of

KEYBOARD = Keyboard(("aA", "bB", "1!"))


def machine_with(*faults, width=6):
    return Machine(KEYBOARD, width, faults)


class StrokesOfTest(unittest.TestCase):
    def check_wrong(self, text, index):
        with self.subTest(text=text):
            with self.assertRaises(InvalidText) as caught:
                strokes_of(KEYBOARD, text)
            self.assertEqual(caught.exception.index, index)

    def test_empty_text(self):
        self.assertEqual(strokes_of(KEYBOARD, ""), [])

    def test_plain_signs_blanks_and_line_feeds(self):
        self.assertEqual(strokes_of(KEYBOARD, "ab1"), [0, 1, 2])
        self.assertEqual(strokes_of(KEYBOARD, " a  b "), ["space", 0, "space", "space", 1, "space"])
        self.assertEqual(strokes_of(KEYBOARD, "a\n\nb"), [0, "return", "return", 1])

    def test_lock_in_turn(self):
        self.assertEqual(strokes_of(KEYBOARD, "A"), ["up", 0])
        self.assertEqual(strokes_of(KEYBOARD, "AB!"), ["up", 0, 1, 2])
        self.assertEqual(strokes_of(KEYBOARD, "aAbB"), [0, "up", 0, "down", 1, "up", 1])
        self.assertEqual(strokes_of(KEYBOARD, "!1!"), ["up", 2, "down", 2, "up", 2])

    def test_lock_stays_as_it_is_at_blanks_and_line_feeds(self):
        self.assertEqual(strokes_of(KEYBOARD, "A B\nA\na"),
                         ["up", 0, "space", 1, "return", 0, "return", "down", 0])
        self.assertEqual(strokes_of(KEYBOARD, "a \nA"), [0, "space", "return", "up", 0])

    def test_sixty_strokes(self):
        for sign in "a \n":
            self.assertEqual(len(strokes_of(KEYBOARD, sign * 60)), 60)
            self.check_wrong(sign * 61, 60)
            self.check_wrong(sign * 90, 60)

    def test_up_and_down_are_counted(self):
        self.assertEqual(len(strokes_of(KEYBOARD, "A" * 59)), 60)
        self.check_wrong("A" * 60, 59)
        self.assertEqual(len(strokes_of(KEYBOARD, "Aa" * 15)), 60)
        self.check_wrong("Aa" * 15 + "a", 30)
        self.check_wrong("Aa" * 15 + "A", 30)
        # The stroke "up" is the 60th one, the key itself the 61st.
        self.check_wrong("a" * 59 + "A", 59)
        self.check_wrong("Ab" + "a" * 57, 58)

    def test_signs_that_are_none(self):
        for text, index in (("c", 0), ("ab?", 2), ("a*", 1), ("\t", 0), ("a b\rb", 3), ("Ab1!-x", 4)):
            self.check_wrong(text, index)

    def test_wrong_sign_ahead_of_and_behind_the_sixty_first_stroke(self):
        self.check_wrong("a" * 59 + "c" + "a" * 9, 59)
        self.check_wrong("a" * 60 + "c", 60)
        self.check_wrong("a" * 61 + "c", 60)

    def test_a_new_list_each_time(self):
        strokes_of(KEYBOARD, "aB").clear()
        self.assertEqual(strokes_of(KEYBOARD, "aB"), [0, "up", 1])


class MeantTest(unittest.TestCase):
    def test_meant(self):
        texts = ["ab", "aB", "a1", "ab"]
        self.assertEqual(meant(machine_with(), texts, {(0, 0): "a", (0, 1): "b"}), [0, 3])
        self.assertEqual(meant(machine_with(("up",)), texts, {(0, 1): "b", (0, 0): "a"}), [0, 1, 3])
        self.assertEqual(meant(machine_with(("dead", 0), ("dead", 1)), texts, {}), [0, 1, 3])
        self.assertEqual(meant(machine_with(), texts, {(0, 0): "a"}), [])

    def test_lock_is_as_the_strokes_tell(self):
        # "down" is typed ahead of b, although the lock was never set.
        self.assertEqual(meant(machine_with(("up",)), ["Ab"], {(0, 0): "a", (0, 1): "b"}), [0])
        self.assertEqual(meant(machine_with(("down",)), ["aAa"], {(0, 0): "a", (0, 1): "A", (0, 2): "A"}), [0])

    def test_no_texts_and_empty_texts(self):
        self.assertEqual(meant(machine_with(), [], {}), [])
        self.assertEqual(meant(machine_with(), ["", " ", "\n", "a"], {}), [0, 1, 2])

    def test_order_of_indexes(self):
        self.assertEqual(meant(machine_with(), ["a"] * 12, {(0, 0): "a"}), list(range(12)))


class ConfusedTest(unittest.TestCase):
    def test_confused(self):
        self.assertEqual(confused(machine_with(("up",)), ["A", "a", "!"]), [(0, 1)])
        self.assertEqual(confused(machine_with(("space",)), ["a b", "ab", "b", " b", "1"]), [(0, 1), (2, 3)])
        self.assertEqual(confused(machine_with(), ["a", "b", "1"]), [])

    def test_equal_texts(self):
        self.assertEqual(confused(machine_with(), ["a", "b", "a", "a"]), [(0, 2), (0, 3), (2, 3)])

    def test_no_texts_and_one_text(self):
        self.assertEqual(confused(machine_with(), []), [])
        self.assertEqual(confused(machine_with(), ["a"]), [])

    def test_blanks_at_the_end(self):
        self.assertEqual(confused(machine_with(), ["a", "a ", "a\n"]), [(0, 1), (0, 2), (1, 2)])


class InvalidTextsTest(unittest.TestCase):
    def test_first_text_that_cannot_be_typed(self):
        wrong = [(0, ["c"]), (1, ["a", "a?", "b", "c"]), (2, ["", "a" * 60, "a" * 61]), (0, ["A" * 60, "c"])]
        for index, texts in wrong:
            calls = [lambda: meant(machine_with(), texts, {(0, 0): "a"}), lambda: confused(machine_with(), texts)]
            for call in calls:
                with self.subTest(texts=texts), self.assertRaises(InvalidTexts) as caught:
                    call()
                self.assertEqual(caught.exception.index, index)

    def test_nothing_is_modified_and_answers_may_be(self):
        texts, sheet = ["a", "A", "b"], {(0, 0): "a"}
        for _ in range(2):
            found = meant(machine_with(("up",)), texts, sheet)
            self.assertEqual(found, [0, 1])
            found.clear()
            pairs = confused(machine_with(("up",)), texts)
            self.assertEqual(pairs, [(0, 1)])
            pairs.clear()
        self.assertEqual((texts, sheet), (["a", "A", "b"], {(0, 0): "a"}))
