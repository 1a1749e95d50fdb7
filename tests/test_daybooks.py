"""Points 1 and 29: daybooks."""

import unittest

from typefault.daybooks import Daybook
from typefault.errors import DaybookError
from typefault.keyboards import Keyboard
from typefault.machines import Machine

HEAD = "keys aA bB cC\nwidth 6"
KEYBOARD = Keyboard(("aA", "bB", "cC"))


def book_of(*rows):
    return Daybook("\n".join([HEAD, *rows]))


class DaybookTest(unittest.TestCase):
    def check(self, rows, results):
        with self.subTest(rows=rows):
            self.assertEqual(book_of(*rows).results, results)

    def test_no_entries(self):
        book = Daybook(HEAD)
        self.assertEqual((book.results, book.sheet()), ("", {}))
        self.assertEqual(book.machine(), Machine(KEYBOARD, 6, ()))

    def test_no_questions(self):
        book = book_of("strike 0 1", "break up", "mend up", "break dead 2", "strike")
        self.assertEqual((book.results, book.sheet()), ("", {(0, 0): "a", (0, 1): "b"}))
        self.assertEqual(book.machine(), Machine(KEYBOARD, 6, [("dead", 2)]))

    def test_one_sheet_and_one_state(self):
        book = book_of("strike 0 up 1 return", "strike 2 down", "strike", "strike 0")
        self.assertEqual(list(book.sheet().items()), [((0, 0), "a"), ((0, 1), "B"), ((1, 0), "C"), ((1, 1), "a")])

    def test_several_signs_in_a_cell(self):
        book = book_of("strike 1 back", "strike 0 0", "show")
        self.assertEqual((book.sheet(), book.results), ({(0, 0): "ab", (0, 1): "a"}, "*a"))

    def test_show(self):
        self.check(["show"], "")
        self.check(["show", "show"], "\n")
        self.check(["strike space", "show", "strike 0", "show"], "\n a")
        self.check(["strike 0 return return space 1", "show"], "a// b")
        self.check(["strike return 0", "show", "strike return return 1", "show"], "/a\n/a//b")

    def test_state(self):
        self.check(["state"], "0 0 down")
        self.check(["strike 0 1 return 2", "state", "strike up", "state", "strike down", "state"],
                   "1 1 down\n1 1 up\n1 1 down")
        self.check(["strike 0 0 0 0 0 0 0 0", "state"], "0 5 down")
        self.check(["break up", "strike up", "state", "mend up", "strike up", "state"], "0 0 down\n0 0 up")

    def test_faults(self):
        self.check(["faults"], "-")
        self.check(["break swap 0 2", "faults", "break back", "faults", "break slip 3", "faults"],
                   "swap 0 2\nback, swap 0 2\nback, slip 3, swap 0 2")
        self.check(["break dead 0", "break dead 1", "mend dead 0", "faults", "mend dead 1", "faults"], "dead 1\n-")

    def test_all_questions(self):
        self.check(["show", "state", "faults"], "\n0 0 down\n-")
        self.check(["strike 0 up 1", "show", "break dead 0", "strike 0 1", "show", "state", "faults"],
                   "aB\naB B\n0 4 up\ndead 0")

    def test_each_fault_comes_and_goes(self):
        for fault, strokes, text, without in (
                ("back", "0 back 1", "ab", "*"), ("dead 0", "0 1", " b", "ab"), ("double 0", "0 1", "aab", "ab"),
                ("down", "up down 0", "A", "a"), ("feed 0", "0 return space 1", "ab", "a/ b"),
                ("feed 2", "return 0", "//a", "/a"), ("slip 1", "0 1", "a b", "ab"), ("space", "space 0", "a", " a"),
                ("stuck 0", "0 1", "*", "ab"), ("swap 0 2", "0 1 2", "cba", "abc"), ("up", "up 0", "a", "A")):
            self.check([f"break {fault}", f"strike {strokes}", "show", "faults"], f"{text}\n{fault}")
            self.check([f"break {fault}", f"mend {fault}", f"strike {strokes}", "show", "faults"], f"{without}\n-")

    def test_the_state_stays_when_faults_come_and_go(self):
        self.check(["strike up 0", "break up", "strike 0 down 0 up 0", "show"], "AAaa")
        self.check(["strike up", "break down", "strike down 0", "mend down", "strike 0 down 0", "show"], "AAa")
        self.check(["strike 0", "break slip 1", "strike 0", "state"], "0 2 down")
        self.check(["strike 0", "break slip 2", "strike 0", "state"], "0 3 down")

    def test_a_hundred_entries(self):
        book = book_of(*["strike 0 return"] * 99, "state")
        self.assertEqual((book.results, len(book.sheet())), ("99 0 down", 99))
        self.assertEqual(book_of(*["state"] * 100).results, "\n".join(["0 0 down"] * 100))

    def test_more_than_sixty_strokes_in_several_entries(self):
        book = book_of("strike" + " return" * 60, "strike" + " return" * 60, "strike 0", "state")
        self.assertEqual((book.sheet(), book.results), ({(120, 0): "a"}, "120 1 down"))

    def test_answers_may_be_changed(self):
        book = book_of("strike 0 1", "break dead 0", "show", "faults")
        for _ in range(2):
            self.assertEqual(book.sheet(), {(0, 0): "a", (0, 1): "b"})
            book.sheet().clear()
            self.assertEqual(book.machine().faults, (("dead", 0),))
            self.assertEqual(book.results, "ab\ndead 0")

    def test_widths(self):
        for width in (2, 20):
            book = Daybook(f"keys aA bB\nwidth {width}\nstrike" + " space" * 30 + "\nstate")
            self.assertEqual(book.results, f"0 {width - 1} down")


class DaybookErrorTest(unittest.TestCase):
    def check(self, text, row, word):
        with self.subTest(text=text):
            with self.assertRaises(DaybookError) as caught:
                Daybook(text)
            self.assertIs(type(caught.exception), DaybookError)
            self.assertEqual((caught.exception.row, caught.exception.word), (row, word))

    def check_behind(self, rows, row, word):
        """What is wrong stands in rows behind two that are right, and what is wrong in other ways behind it."""
        self.check(HEAD + "\n" + rows, row + 2, word)
        if word > 0:
            self.check("keys\nwidth 1\nstrike 99\nmend up\n" + rows, row + 4, word)

    def test_missing_rows(self):
        self.check("keys aA bB", 1, 0)
        self.check("keys", 1, 0)
        self.check("keys aA aA", 1, 0)
        self.check("keys aA bB c", 0, 3)
        self.check("", 0, 0)
        self.check("keys aA bB\n", 1, 0)

    def test_first_words(self):
        self.check("width 6\nkeys aA bB", 0, 0)
        self.check("keys aA bB\nkeys aA bB", 1, 0)
        self.check("keys aA bB\nstrike 0", 1, 0)
        self.check("keys aA bB\nmost 2\nwidth 6", 1, 0)
        for row in ("", "keys aA bB", "width 6", "most 2", "fault up", "strokes 0", "cell 0 0 a", "Strike 0",
                    " strike 0", "x", "undo", "breaks up"):
            self.check_behind(row, 0, 0)
            self.check_behind("strike 0\nbreak up\nmend up\nshow\nstate\nfaults\n" + row, 6, 0)

    def test_keys_and_widths(self):
        for key in ("a", "aAa", "", "a_"):
            self.check(f"keys aA {key}\nwidth x", 0, 2)
        for width in ("", "01", "x", "-1", "1234567890"):
            self.check(f"keys aA bB\nwidth {width}", 1, 1)
        self.check("keys aA bB\nwidth", 1, 1)
        self.check("keys aA bB\nwidth 6 6", 1, 2)

    def test_words_of_strokes(self):
        self.check_behind("strike x", 0, 1)
        self.check_behind("strike 0 up left 1", 0, 3)
        self.check_behind("strike 0  1", 0, 2)
        self.check_behind("strike ", 0, 1)
        self.check_behind("strike 00", 0, 1)
        self.check_behind("show\nstrike 0 -1", 1, 2)

    def test_words_of_faults(self):
        for word in ("break", "mend"):
            self.check_behind(word, 0, 1)
            self.check_behind(f"{word} x", 0, 1)
            self.check_behind(f"{word} up 0", 0, 2)
            self.check_behind(f"{word} dead", 0, 2)
            self.check_behind(f"{word} dead 0 1", 0, 3)
            self.check_behind(f"{word} dead x", 0, 2)
            self.check_behind(f"{word} swap 0", 0, 3)
            self.check_behind(f"{word} swap 0 1 2", 0, 4)
            self.check_behind(f"{word} return", 0, 1)

    def test_words_of_questions(self):
        for word in ("show", "state", "faults"):
            self.check_behind(f"{word} x", 0, 1)
            self.check_behind(f"{word} ", 0, 1)
            self.check_behind(f"show\n{word} {word}\nx", 1, 1)

    def test_too_many_entries(self):
        for row in ("show", "strike 0", "x", "", "strike x", "break dead 9", "mend up"):
            self.check_behind("show\n" * 100 + row, 100, 0)
            self.check_behind("show\n" * 100 + row + "\nshow x", 100, 0)

    def test_what_is_wrong_ahead_of_and_behind_the_entry_too_many(self):
        self.check(HEAD + "\nshow" * 99 + "\nshow x\nshow", 101, 1)
        self.check_behind("show\n" * 50 + "x\n" + "show\n" * 60, 50, 0)
        self.check_behind("show\n" * 101 + "x", 100, 0)
        self.check("keys aA b\nwidth 6" + "\nshow" * 101, 0, 2)
        self.check("keys aA\nwidth 1\nmend up" + "\nshow" * 100, 102, 0)

    def test_invalid_keyboards(self):
        for keys in ("keys", "keys aA", "keys aa bB", "keys aA bA", "keys aA bB cC dD eE fF gG hH iI jJ kK"):
            for rows in ("width 6", "width 1", "width 1\nstrike 99", "width 6\nmend up"):
                self.check(f"{keys}\n{rows}", 0, 0)

    def test_invalid_widths(self):
        for width in (0, 1, 21, 999999999):
            for rows in ("", "\nstrike 99", "\nmend up"):
                self.check(f"keys aA bB\nwidth {width}{rows}", 1, 0)

    def test_invalid_strokes(self):
        self.check_behind("strike 3", 0, 0)
        self.check_behind("strike 0\nshow\nstrike 0 999999999\nmend up", 2, 0)
        self.check_behind("strike" + " 0" * 60 + "\nstrike" + " 0" * 61, 1, 0)

    def test_faults_that_the_machine_cannot_have(self):
        for fault in ("dead 3", "stuck 999999999", "feed 1", "feed 3", "slip 0", "slip 5", "swap 1 1", "swap 1 0",
                      "swap 0 3"):
            self.check_behind(f"break {fault}", 0, 0)
            self.check_behind(f"show\nbreak up\nbreak {fault}\nstrike 3", 2, 0)

    def test_faults_that_clash(self):
        for one, other in (("up", "up"), ("up", "down"), ("dead 0", "stuck 0"), ("swap 0 1", "double 1"),
                           ("feed 0", "feed 2"), ("slip 2", "slip 2"), ("swap 0 1", "swap 1 2"), ("back", "back")):
            self.check_behind(f"break {one}\nbreak {other}", 1, 0)
            self.check_behind(f"break {other}\nshow\nbreak {one}\nmend {one}", 2, 0)
            self.assertEqual(book_of(f"break {one}", f"mend {one}", f"break {other}", "faults").results, other)

    def test_faults_that_are_mended_and_not_there(self):
        for fault in ("up", "dead 0", "dead 9", "feed 1", "swap 1 0"):
            self.check_behind(f"mend {fault}", 0, 0)
            self.check_behind(f"break down\nmend {fault}\nmend down", 1, 0)
        self.check_behind("break up\nmend up\nmend up", 2, 0)
        self.check_behind("break dead 0\nmend stuck 0", 1, 0)

    def test_the_first_entry_that_raises_an_error(self):
        self.check_behind("strike 0\nbreak dead 9\nstrike 9\nmend up", 1, 0)
        self.check_behind("strike 0\nmend up\nbreak dead 9\nstrike 9", 1, 0)
        self.check_behind("strike 9\nmend up", 0, 0)

    def test_wrong_rows_go_ahead_of_all_else(self):
        self.check("keys aA\nwidth 1\nstrike 9\nbreak dead 9\nmend up\nshow x", 5, 1)
        self.check("keys aA\nwidth 1\nstrike 9\nstate\n", 4, 0)
