"""Points 1 and 27: the text of a case and of evidence."""

import copy
import unittest

from typefault.cases import Case
from typefault.errors import InvalidCase, InvalidEvidence, InvalidKeyboard, InvalidRow
from typefault.keyboards import Keyboard
from typefault.notation import format_case, parse_case

KEYBOARD = Keyboard(("aA", "!?", "-."))
POOL = (("up",), ("swap", 0, 2), ("dead", 1), ("feed", 0), ("slip", 3))
CASE = Case(KEYBOARD, 6, POOL, 2)
EVIDENCE = [(["up", 0, 1], {(0, 0): "!?A", (0, 3): "-"}), ([], {}), ((2, "return"), {(1, 0): ".", (0, 5): "-"})]
TEXT = """keys aA !? -.
width 6
most 2
fault up
fault swap 0 2
fault dead 1
fault feed 0
fault slip 3
strokes up 0 1
cell 0 0 !?A
cell 0 3 -
strokes
strokes 2 return
cell 0 5 -
cell 1 0 ."""
HEAD = "keys aA bB cC\nwidth 6\nmost 2"


def told(case):
    return (case.keyboard.key_signs, case.width, case.pool, case.most)


class FormatTest(unittest.TestCase):
    def test_whole_text(self):
        self.assertEqual(format_case(CASE, EVIDENCE), TEXT)

    def test_no_faults_and_no_evidence(self):
        self.assertEqual(format_case(Case(KEYBOARD, 20, (), 0), []), "keys aA !? -.\nwidth 20\nmost 0")

    def test_each_fault(self):
        pool = (("back",), ("dead", 0), ("double", 2), ("down",), ("feed", 2), ("slip", 10), ("space",), ("stuck", 1),
                ("swap", 0, 1), ("up",))
        rows = ["back", "dead 0", "double 2", "down", "feed 2", "slip 10", "space", "stuck 1", "swap 0 1", "up"]
        text = format_case(Case(KEYBOARD, 12, pool, 4), [])
        self.assertEqual(text.split("\n"), ["keys aA !? -.", "width 12", "most 4"] + [f"fault {row}" for row in rows])

    def test_cells_ascend(self):
        evidence = [([0], {(10, 2): "a", (2, 10): "b", (2, 9): "C", (0, 11): "AB"})]
        rows = format_case(Case(KEYBOARD, 12, (), 4), evidence).split("\n")[4:]
        self.assertEqual(rows, ["cell 0 11 AB", "cell 2 9 C", "cell 2 10 b", "cell 10 2 a"])

    def test_invalid_evidence(self):
        for strokes in ([3], [0, True], ["x"], [0] * 61):
            with self.assertRaises(InvalidEvidence) as caught:
                format_case(CASE, EVIDENCE + [(strokes, {}), ([9], {})])
            self.assertEqual(caught.exception.index, 3)

    def test_nothing_is_modified(self):
        evidence = copy.deepcopy(EVIDENCE)
        for _ in range(2):
            self.assertEqual(format_case(CASE, evidence), TEXT)
        self.assertEqual([list(sheet) for _, sheet in evidence], [list(sheet) for _, sheet in EVIDENCE])
        self.assertEqual(evidence, EVIDENCE)


class ParseTest(unittest.TestCase):
    def test_whole_text(self):
        case, evidence = parse_case(TEXT)
        self.assertEqual(told(case), told(CASE))
        self.assertIs(type(case), Case)
        self.assertEqual(evidence, [(list(strokes), sheet) for strokes, sheet in EVIDENCE])
        self.assertEqual([list(sheet) for _, sheet in evidence], [[(0, 0), (0, 3)], [], [(0, 5), (1, 0)]])
        self.assertEqual({type(strokes) for strokes, _ in evidence}, {list})
        self.assertEqual({type(pair) for pair in evidence}, {tuple})
        self.assertEqual(format_case(case, evidence), TEXT)

    def test_head_alone(self):
        case, evidence = parse_case(HEAD)
        self.assertEqual((told(case), evidence), ((("aA", "bB", "cC"), 6, (), 2), []))

    def test_great_numbers(self):
        _, evidence = parse_case(HEAD + "\nstrokes\ncell 0 999999999 a\ncell 999999999 0 b")
        self.assertEqual(evidence, [([], {(0, 999999999): "a", (999999999, 0): "b"})])

    def test_signs_and_columns_that_the_keyboard_and_the_width_do_not_have(self):
        _, evidence = parse_case(HEAD + "\nstrokes 0\ncell 7 8 !19Zz\ncell 7 60 y")
        self.assertEqual(evidence, [([0], {(7, 8): "!19Zz", (7, 60): "y"})])

    def test_cells_begin_anew_behind_the_next_strokes(self):
        _, evidence = parse_case(HEAD + "\nstrokes\ncell 1 1 a\nstrokes\ncell 1 1 a\nstrokes\ncell 0 3 a\ncell 1 0 b")
        self.assertEqual(evidence, [([], {(1, 1): "a"})] * 2 + [([], {(0, 3): "a", (1, 0): "b"})])

    def test_strokes_are_no_cells(self):
        _, evidence = parse_case(HEAD + "\nstrokes 2 2\nstrokes 1 1\nstrokes 1 1\ncell 0 0 a")
        self.assertEqual(evidence, [([2, 2], {}), ([1, 1], {}), ([1, 1], {(0, 0): "a"})])

    def test_numbers_are_compared_as_numbers(self):
        _, evidence = parse_case(HEAD + "\nstrokes\ncell 0 9 a\ncell 0 10 a\ncell 2 0 a\ncell 10 0 a")
        self.assertEqual(list(evidence[0][1]), [(0, 9), (0, 10), (2, 0), (10, 0)])

    def test_answers_may_be_changed(self):
        for _ in range(2):
            _, evidence = parse_case(TEXT)
            self.assertEqual(evidence[0], (["up", 0, 1], {(0, 0): "!?A", (0, 3): "-"}))
            evidence[0][0].append(1)
            evidence[0][1].clear()
            evidence.clear()


class InvalidRowTest(unittest.TestCase):
    def check(self, text, row, word):
        with self.subTest(text=text):
            with self.assertRaises(InvalidRow) as caught:
                parse_case(text)
            self.assertIs(type(caught.exception), InvalidRow)
            self.assertEqual((caught.exception.row, caught.exception.word), (row, word))

    def check_behind(self, rows, row, word):
        """What is wrong stands in rows behind three that are right."""
        self.check(HEAD + "\n" + rows, row + 3, word)

    def test_text_without_signs(self):
        self.check("", 0, 0)
        for text in (" ", "\n", "\n\n\n", " \n"):
            self.check(text, 0, 0)

    def test_missing_rows(self):
        self.check("keys aA bB", 1, 0)
        self.check("keys aA bB\nwidth 6", 2, 0)
        self.check("keys", 1, 0)
        self.check("keys aA bB\n", 1, 0)
        self.check("keys aA bB\nwidth 6\n", 2, 0)

    def test_missing_rows_are_behind_all_that_is_wrong(self):
        self.check("keys aA b", 0, 2)
        self.check("keys aA\nwidth", 1, 1)
        self.check("keys aA\nwidth 6 6", 1, 2)
        self.check("width 6", 0, 0)

    def test_first_words_of_the_first_rows(self):
        rows = HEAD.split("\n")
        for index in range(3):
            for other in ("", "fault up", "strokes", "cell 0 0 a", "Keys aA", "key aA", "x", rows[index - 1],
                          " " + rows[index]):
                self.check("\n".join(rows[:index] + [other] + rows[index + 1:]), index, 0)
        self.check("\n" + HEAD, 0, 0)
        self.check("cell 0 0 a\nwidth 6\nmost 2\nstrokes\ncell 1 1 a", 0, 0)

    def test_first_words_ahead_of_the_first_strokes(self):
        for row in ("", "cell 0 0 a", "keys aA bB", "width 6", "most 2", "Fault up", "stroke 0", "x", " fault up",
                    "strike"):
            self.check_behind(row, 0, 0)
            self.check_behind("fault up\n" + row + "\nstrokes", 1, 0)

    def test_first_words_behind_the_first_strokes(self):
        for row in ("", "fault up", "fault", "keys aA bB", "width 6", "most 2", "Cell 0 0 a", "cells 0 0 a", "x",
                    " cell 0 0 a"):
            self.check_behind("strokes\n" + row, 1, 0)
            self.check_behind("fault up\nstrokes 0\ncell 0 0 a\n" + row, 3, 0)
            self.check_behind("strokes 0\ncell 0 0 a\nstrokes\n" + row, 3, 0)

    def test_keys(self):
        for word in ("a", "aAa", "", "a_", "_a", "a\u00e4", "a\t", "%a", "a/"):
            self.check(f"keys {word} bB\nwidth 6\nmost 2", 0, 1)
            self.check(f"keys aA bB {word}\nwidth 6\nmost 2", 0, 3)

    def test_numbers(self):
        wrong = ("", "00", "01", "012345678", "1234567890", "0000000000", "-1", "+1", "-0", "1.0", "a", "1a", "1e3",
                 "\u0661", "\u00b2", "1_0", "5\r", "\t5")
        for word in wrong:
            self.check(f"keys aA bB\nwidth {word}\nmost 2", 1, 1)
            self.check(f"keys aA bB\nwidth 6\nmost {word}", 2, 1)
            self.check_behind(f"fault dead {word}", 0, 2)
            self.check_behind(f"fault swap 0 {word}", 0, 3)
            self.check_behind(f"strokes 0 {word} 1", 0, 2)
            self.check_behind(f"strokes\ncell {word} 0 a", 1, 1)
            self.check_behind(f"strokes\ncell 0 {word} a", 1, 2)

    def test_superfluous_and_missing_numbers(self):
        for row, word in (("width", 1), ("width 6 6", 2), ("width x 6", 1), ("width 6 x", 2), ("width 6 ", 2),
                          ("width  6", 1)):
            self.check(f"keys aA bB\n{row}\nmost 2", 1, word)
            self.check(f"keys aA bB\nwidth 6\n{row.replace('width', 'most')}", 2, word)

    def test_numbers_of_each_fault(self):
        for fault in ("back", "down", "space", "up"):
            self.check_behind(f"fault {fault} 0", 0, 2)
            self.check_behind(f"fault {fault} x y", 0, 2)
        for fault in ("dead", "double", "feed", "slip", "stuck"):
            self.check_behind(f"fault {fault}", 0, 2)
            self.check_behind(f"fault {fault} 0 1", 0, 3)
            self.check_behind(f"fault {fault} x 1", 0, 2)
        self.check_behind("fault swap", 0, 2)
        self.check_behind("fault swap 0", 0, 3)
        self.check_behind("fault swap x", 0, 2)
        self.check_behind("fault swap 0 1 2", 0, 4)

    def test_words_of_faults(self):
        for word in ("", "Dead", "dea", "return", "left", "0", "deads", "fault"):
            self.check_behind(f"fault {word} 0", 0, 1)
            self.check_behind(f"fault up\nfault {word}", 1, 1)
        self.check_behind("fault", 0, 1)

    def test_words_of_strokes(self):
        for word in ("x", "dead", "Up", "left", "backspace", ""):
            self.check_behind(f"strokes {word}", 0, 1)
            self.check_behind(f"strokes 0 up {word} 1", 0, 3)
            self.check_behind(f"strokes 0 up\nstrokes 1 {word}", 1, 2)

    def test_blanks(self):
        self.check("keys  aA bB\nwidth 6\nmost 2", 0, 1)
        self.check("keys aA bB \nwidth 6\nmost 2", 0, 3)
        self.check(" keys aA bB\nwidth 6\nmost 2", 0, 0)
        self.check_behind("strokes ", 0, 1)
        self.check_behind("strokes 0  1", 0, 2)
        self.check_behind("fault up ", 0, 2)
        self.check_behind("fault dead  0", 0, 2)
        self.check_behind(" fault up", 0, 0)
        self.check_behind("strokes\ncell 0 0 a ", 1, 4)
        self.check_behind("strokes\ncell 0  0 a", 1, 2)
        self.check_behind("strokes\ncell  0 0 a", 1, 1)
        self.check_behind("strokes\n", 1, 0)
        self.check_behind("", 0, 0)

    def test_words_of_cells(self):
        self.check_behind("strokes\ncell", 1, 1)
        self.check_behind("strokes\ncell 0", 1, 2)
        self.check_behind("strokes\ncell 0 0", 1, 3)
        self.check_behind("strokes\ncell 0 0 a a", 1, 4)

    def test_signs(self):
        for signs in ("", "aa", "ba", "aA", "a!", "abb", "a_", "\u00e4", "a\u00e4", "a%", "zz", "1!"):
            self.check_behind(f"strokes\ncell 0 0 {signs}", 1, 3)
            self.check_behind(f"strokes\ncell 0 0 a\ncell 0 1 {signs} b", 2, 3)

    def test_cells_that_do_not_ascend(self):
        for one, other in (("0 1", "0 0"), ("1 0", "0 9"), ("2 2", "2 2"), ("0 10", "0 9"), ("10 0", "9 0")):
            self.check_behind(f"strokes\ncell {one} a\ncell {other} a", 2, 1)
            self.check_behind(f"strokes 0\ncell 0 0 a\nstrokes\ncell {one} a\ncell {other} a\ncell 99 99 a", 4, 1)

    def test_cells_that_do_not_ascend_go_ahead_of_their_signs(self):
        for rest in ("", " ", " ba", " _", " a a", " aa b c"):
            self.check_behind(f"strokes\ncell 1 1 a\ncell 1 1{rest}", 2, 1)
            self.check_behind(f"strokes\ncell 1 1 a\ncell 0 3{rest}", 2, 1)

    def test_cells_of_which_a_number_is_wrong(self):
        self.check_behind("strokes\ncell 1 1 a\ncell 0 x a", 2, 2)
        self.check_behind("strokes\ncell 1 1 a\ncell 0", 2, 2)
        self.check_behind("strokes\ncell 1 1 a\ncell 0 01 a", 2, 2)
        self.check_behind("strokes\ncell 1 1 a\ncell x 0 a", 2, 1)
        self.check_behind("strokes\ncell 1 1 a\ncell x x ba", 2, 1)
        self.check_behind("strokes\ncell 1 1 a\ncell", 2, 1)

    def test_the_first_of_two_wrong_words(self):
        self.check("keys a b\nwidth 6\nmost 2", 0, 1)
        self.check("keys aA b\nwidth x\nmost", 0, 2)
        self.check("keys aA bB\nwidth x\nmost x", 1, 1)
        self.check_behind("fault swap x y", 0, 2)
        self.check_behind("fault up\nfault dead\nfault x", 1, 2)
        self.check_behind("strokes x y", 0, 1)
        self.check_behind("strokes\ncell 0 x ba", 1, 2)
        self.check_behind("strokes\ncell 0 1 ba\ncell 0 0 a", 1, 3)
        self.check_behind("strokes\ncell 0 1 a\ncell 0 0 a\nfault up", 2, 1)

    def test_wrong_rows_go_ahead_of_all_else(self):
        self.check("keys aA aB\nwidth 99\nmost 9\nfault dead 9\nstrokes 99\nx", 5, 0)
        self.check("keys\nwidth 1\nmost", 2, 1)
        self.check("keys aa\nwidth 1", 2, 0)


class OtherErrorsTest(unittest.TestCase):
    def check(self, text, error, **attributes):
        with self.subTest(text=text):
            with self.assertRaises(error) as caught:
                parse_case(text)
            self.assertIs(type(caught.exception), error)
            for name, value in attributes.items():
                self.assertEqual(getattr(caught.exception, name), value)

    def test_keyboards(self):
        behind = "\nwidth 99\nmost 9\nfault dead 99\nstrokes 99"
        eleven = "keys aA bB cC dD eE fF gG hH iI jJ kK"
        for keys, index in (("keys", 0), ("keys aA", 1), ("keys aA bb", 1), ("keys aa bB", 0), ("keys aA bB cA", 2),
                            (eleven, 10), (eleven.replace("cC", "cc"), 2)):
            self.check(keys + behind, InvalidKeyboard, index=index)
            self.check(keys + "\nwidth 6\nmost 2", InvalidKeyboard, index=index)
        self.assertEqual(len(parse_case(eleven[:-3] + "\nwidth 6\nmost 2")[0].keyboard), 10)

    def test_cases(self):
        behind = "\nstrokes 99"
        for end in ("", behind):
            self.check("keys aA bB\nwidth 1\nmost 9\nfault dead 9" + end, InvalidCase, part="width", index=0)
            self.check("keys aA bB\nwidth 21\nmost 2" + end, InvalidCase, part="width", index=0)
            self.check("keys aA bB\nwidth 999999999\nmost 2" + end, InvalidCase, part="width", index=0)
            self.check("keys aA bB\nwidth 6\nmost 9\nfault up\nfault dead 2" + end, InvalidCase, part="pool", index=1)
            self.check("keys aA bB\nwidth 6\nmost 2\nfault up\nfault up" + end, InvalidCase, part="pool", index=1)
            self.check("keys aA bB\nwidth 6\nmost 2\nfault swap 1 0" + end, InvalidCase, part="pool", index=0)
            self.check("keys aA bB\nwidth 6\nmost 5\nfault up" + end, InvalidCase, part="most", index=0)
        eleven = "".join(f"\nfault slip {column}" for column in range(1, 12))
        self.check("keys aA bB\nwidth 20\nmost 2" + eleven, InvalidCase, part="pool", index=10)

    def test_evidence(self):
        self.check(HEAD + "\nstrokes 3", InvalidEvidence, index=0)
        self.check(HEAD + "\nstrokes 2\ncell 0 0 a\nstrokes 0 999999999\nstrokes 3", InvalidEvidence, index=1)
        self.check(HEAD + "\nstrokes" + " up" * 61, InvalidEvidence, index=0)
        self.assertEqual(parse_case(HEAD + "\nstrokes" + " 2" * 60)[1], [([2] * 60, {})])
