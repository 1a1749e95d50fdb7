"""Points 21 to 29 compared with tests/reference.py, over what a fixed seed chooses."""

import itertools
import random
import unittest

from tests import reference
from tests.test_compared import KEYBOARD, SMALL, case_from, machine_from, spoiled_by
from typefault import apart, cases, trials, wears
from typefault.benches import Bench
from typefault.cases import Case, fault_sets
from typefault.codec import decode_case, encode_case
from typefault.costs import best_repair, cheapest_repair
from typefault.daybooks import Daybook
from typefault.errors import (DaybookError, DecodeError, InvalidCase, InvalidEvidence, InvalidKeyboard, InvalidRow,
                              NoFit, WriterError)
from typefault.keyboards import Keyboard
from typefault.machines import Machine
from typefault.notation import format_case, parse_case
from typefault.reveals import Reveal
from typefault.several import assignment_count, could_be, telling_strokes
from typefault.tables import table


def text_of_fault(fault):
    return " ".join(map(str, fault))


class ComparedTest(unittest.TestCase):
    def setUp(self):
        self.source = random.Random(21)

    def strokes(self, most):
        return reference.random_strokes(self.source, len(KEYBOARD), most)

    def alike(self, many, keyboard, most=2):
        """So many machines of one keyboard and width, of which some may be equal."""
        width = self.source.choice((3, 4, 6))
        return [Machine(keyboard, width, reference.random_faults(self.source, len(keyboard), width, most))
                for _ in range(many)]

    def test_several(self):
        for _ in range(300):
            machines = self.alike(self.source.randint(2, 6), KEYBOARD)
            evidence = []
            for _ in range(self.source.randint(0, 4)):
                strokes = self.strokes(4)
                evidence.append((strokes, reference.sheet_by(self.source.choice(machines), strokes)))
            rows = [[index for index, machine in enumerate(machines) if reference.sheet_by(machine, strokes) == sheet]
                    for strokes, sheet in evidence]
            expected = [index for index in range(len(machines)) if all(index in row for row in rows)]
            self.assertEqual(could_be(machines, evidence), expected)
            self.assertEqual(assignment_count(machines, evidence), reference.ways_to_assign(rows, len(machines)))

    def test_telling_strokes(self):
        lists = list(reference.lists_of_strokes(SMALL, 3))
        for _ in range(60):
            machines = self.alike(self.source.randint(2, 4), SMALL)
            most = self.source.randint(0, 3)
            expected = None
            for strokes in lists:
                sheets = [reference.sheet_by(machine, strokes) for machine in machines]
                if len(strokes) <= most and all(sheets.count(sheet) == 1 for sheet in sheets):
                    expected = strokes
                    break
            with self.subTest(faults=[machine.faults for machine in machines], most=most):
                self.assertEqual(telling_strokes(machines, most), expected)

    def test_costs(self):
        for _ in range(250):
            machine, strokes = machine_from(self.source, 5), self.strokes(12)
            costs = {fault: self.source.randint(1, 4) for fault in machine.faults}
            rows = []
            for many in range(len(machine.faults) + 1):
                for faults in itertools.combinations(machine.faults, many):
                    left = len(spoiled_by(machine.repaired(faults), strokes))
                    rows.append((left, sum(costs[fault] for fault in faults), faults))
            with self.subTest(faults=machine.faults, width=machine.width, costs=costs, strokes=strokes):
                self.assertEqual(cheapest_repair(machine, costs, strokes), min(rows)[1:])
                for budget in (0, 1, 3, 5, 8, 100):
                    expected = min(row for row in rows if row[1] <= budget)
                    self.assertEqual(best_repair(machine, costs, strokes, budget), expected)

    def operation(self, case, bench):
        """An operation that now and then raises an error."""
        name = self.source.choice(["strike", "strike", "repair", "wear", "mark", "go", "undo", "undo", "redo"])
        if name == "strike":
            strokes = self.strokes(4)
            known = self.source.choice(self.source.choice([bench.sets(), fault_sets(case)]))
            return (name, strokes, reference.sheet_by(Machine(KEYBOARD, case.width, known), strokes))
        if name in ("mark", "go"):
            return (name, self.source.choice("xyz"))
        if name in ("repair", "wear"):
            return (name, self.source.choice(case.pool + (("dead", 2), ("feed", 0))))
        return (name,)

    def test_benches(self):
        for _ in range(60):
            case = case_from(self.source, 6, self.source.randint(1, 4))
            bench = Bench(case)
            other = reference.History(case.pool, case.most, lambda faults, strokes: reference.sheet_by(
                Machine(KEYBOARD, case.width, faults), strokes))
            for _ in range(25):
                operation = self.operation(case, bench)
                if other.can(operation):
                    way = self.source.choice([lambda: getattr(bench, operation[0])(*operation[1:]),
                                              lambda: bench.apply_all([operation])[0],
                                              lambda: bench.tried([operation], True)[0]])
                    bench.tried([operation, ("mark", "w")], False)
                    self.assertEqual(way(), other.done(operation))
                else:
                    self.assertRaises(WriterError, getattr(bench, operation[0]), *operation[1:])
                    self.assertRaises(WriterError, bench.apply_all, [("mark", "w"), ("undo",), operation])
                sets, marks = other.now()
                self.assertEqual(bench.sets(), sets)
                self.assertEqual(bench.marks, sorted({name for name, _ in marks}))
                self.assertEqual(bench.history, other.operations)
                for fault in case.pool:
                    having = sum(fault in faults for faults in sets)
                    expected = "surely" if having == len(sets) else "perhaps" if having else "never"
                    self.assertEqual(bench.judge(fault), expected)
            replayed = Bench.replay(case, bench.history)
            self.assertEqual((replayed.sets(), replayed.history), (bench.sets(), bench.history))

    def test_reveals(self):
        for _ in range(120):
            case, strokes = case_from(self.source, 6, self.source.randint(0, 3)), self.strokes(8)
            sheets = {faults: reference.sheet_by(Machine(KEYBOARD, case.width, faults), strokes)
                      for faults in reference.sets_of(case.pool, case.most)}
            left = list(sheets)
            reveal = Reveal(case, strokes)
            seen = []
            for _ in range(5):
                rows = []
                for cell in itertools.product(range(17), range(case.width)):
                    signs = [sheets[faults].get(cell, "") for faults in left]
                    rows.append((max(map(signs.count, signs)), cell))
                self.assertEqual(reveal.best_cell(), min(rows)[1] if min(rows)[0] < len(left) else None)
                other = (self.source.randint(0, 2), self.source.randrange(case.width))
                cell = self.source.choice([min(rows)[1], other])
                signs = self.source.choice([sheet.get(cell, "") for sheet in sheets.values()])
                fitting = [faults for faults in left if sheets[faults].get(cell, "") == signs]
                if fitting:
                    left = fitting
                    seen.append(cell)
                    self.assertEqual(reveal.see(cell, signs), len(left))
                else:
                    self.assertRaises(NoFit, reveal.see, cell, signs)
                self.assertEqual((reveal.left, reveal.seen_cells), (tuple(left), seen))

    def test_tables(self):
        for _ in range(100):
            case = case_from(self.source, 6, 2)
            tests = [self.strokes(5) for _ in range(self.source.randint(0, 4))]
            lines = []
            for fault in case.pool:
                machine = Machine(KEYBOARD, case.width, (fault,))
                signs = "".join(" x" if spoiled_by(machine, test) else " -" for test in tests)
                lines.append(text_of_fault(fault) + ":" + signs)
            self.assertEqual(table(case, tests), "\n".join(lines))

    def text_and_case(self):
        """A case, evidence and their text."""
        case = case_from(self.source, self.source.randint(0, 6), 2)
        evidence = []
        for _ in range(self.source.randint(0, 3)):
            strokes = self.strokes(6)
            machine = machine_from(self.source, 3)
            evidence.append((strokes, reference.sheet_by(machine, strokes)))
        return case, evidence, format_case(case, evidence)

    def changed(self, text, words):
        """A text of which some words or rows are changed, left out or put in."""
        rows = [row.split(" ") for row in text.split("\n")]
        for _ in range(self.source.randint(1, 2)):
            row = self.source.choice(rows)
            at = self.source.randrange(len(row) + 1)
            kind = self.source.randrange(5)
            if kind == 0:
                row[at:at + 1] = [self.source.choice(words)]
            elif kind == 1:
                row[at:at] = [self.source.choice(words)]
            elif kind == 2:
                del row[at:at + 1]
            elif kind == 3:
                rows[self.source.randrange(len(rows))] = list(self.source.choice(rows))
            else:
                rows.insert(self.source.randrange(len(rows) + 1), list(self.source.choice(rows)))
        return "\n".join(" ".join(row) for row in rows)

    def test_texts_of_cases(self):
        words = ["", "0", "1", "2", "3", "01", "999999999", "1234567890", "a", "ab", "ba", "aa", "A", "x y", "up",
                 "dead", "swap", "slip", "back", "return", "keys", "width", "most", "fault", "strokes", "cell", "Bb",
                 "-", "_"]
        wrong = 0
        for _ in range(4000):
            case, evidence, text = self.text_and_case()
            parsed, told = parse_case(text)
            self.assertEqual((encode_case(parsed), told), (encode_case(case), evidence))
            text = self.changed(text, words)
            place = reference.wrong_place(text)
            with self.subTest(text=text):
                try:
                    again = format_case(*parse_case(text))
                except InvalidRow as error:
                    self.assertEqual((error.row, error.word), place)
                    wrong += 1
                except (InvalidKeyboard, InvalidCase, InvalidEvidence):
                    self.assertIsNone(place)
                else:
                    self.assertIsNone(place)
                    self.assertEqual(again, text)
        self.assertGreater(wrong, 2000)

    def test_codes(self):
        items = [0, 1, 2, 3, 9, 10, 20, 21, 68, 69, 116, 252, -1, True, False, None, "0"]
        wrong = 0
        for _ in range(4000):
            code = encode_case(case_from(self.source, self.source.randint(0, 6), self.source.randint(0, 4)))
            self.assertEqual(encode_case(decode_case(code)), code)
            self.assertIsNone(reference.wrong_offset(code))
            at = self.source.randrange(len(code))
            kind = self.source.randrange(4)
            if kind == 0:
                code[at:at] = [self.source.choice(items)]
            elif kind == 1:
                del code[at:]
            else:
                code[at] = self.source.choice(items)
            if self.source.random() < 0.5:
                checksum = 5
                for item in code[:-1]:
                    checksum = (checksum * 19 + (item if type(item) is int else 0)) % 253
                code = code[:-1] + [checksum]
            offset = reference.wrong_offset(code)
            with self.subTest(code=code):
                try:
                    again = encode_case(decode_case(code))
                except DecodeError as error:
                    self.assertEqual(error.offset, offset)
                    wrong += 1
                except (InvalidKeyboard, InvalidCase):
                    self.assertIsNone(offset)
                else:
                    self.assertIsNone(offset)
                    self.assertEqual(again, code)
        self.assertGreater(wrong, 2000)

    def entries(self, keyboard, width):
        """Rows of entries of which now and then one raises an error."""
        rows = []
        for _ in range(self.source.randint(0, 12)):
            word = self.source.choice(["strike", "strike", "break", "break", "mend", "show", "state", "faults"])
            if word == "strike":
                rows.append(" ".join(["strike"] + [str(stroke) for stroke in self.strokes(5)]))
            elif word in ("break", "mend"):
                come = [row.partition(" ")[2] for row in rows if row.startswith("break")]
                fault = text_of_fault(reference.random_fault(self.source, len(keyboard), width))
                rows.append(f"{word} {self.source.choice(come) if come and word == 'mend' else fault}")
            else:
                rows.append(word)
        return rows

    def behind_entries(self, rows, width):
        """The results, the sheet and the faults behind entries, or the number of the first one that is wrong."""
        typist, faults, results = reference.Typist(KEYBOARD.key_signs, width, []), [], []
        for index, row in enumerate(rows):
            word, *rest = row.split(" ")
            if word == "strike":
                for stroke in rest:
                    typist.strike(int(stroke) if stroke.isdigit() else stroke)
            elif word in ("break", "mend"):
                fault = (rest[0], *map(int, rest[1:]))
                if (fault not in faults) if word == "mend" else any(reference.clash(fault, other) for other in faults):
                    return index
                faults = [other for other in faults if other != fault] + ([fault] if word == "break" else [])
                now = reference.Typist(KEYBOARD.key_signs, width, faults)
                now.line, now.column, now.locked, now.ink = typist.line, typist.column, typist.locked, typist.ink
                typist = now
            elif word == "show":
                results.append(reference.text_of(typist.sheet()).replace("\n", "/"))
            elif word == "state":
                results.append(f"{typist.line} {typist.column} {('down', 'up')[typist.locked]}")
            else:
                results.append(", ".join(map(text_of_fault, sorted(faults))) or "-")
        return "\n".join(results), typist.sheet(), tuple(sorted(faults))

    def test_daybooks(self):
        right = 0
        for _ in range(800):
            width = self.source.choice((3, 5, 8))
            rows = self.entries(KEYBOARD, width)
            text = "\n".join([f"keys {' '.join(KEYBOARD.key_signs)}", f"width {width}"] + rows)
            expected = self.behind_entries(rows, width)
            with self.subTest(text=text):
                if isinstance(expected, int):
                    with self.assertRaises(DaybookError) as caught:
                        Daybook(text)
                    self.assertEqual((caught.exception.row, caught.exception.word), (expected + 2, 0))
                else:
                    right += 1
                    book = Daybook(text)
                    self.assertEqual((book.results, book.sheet(), book.machine().faults), expected)
                    self.assertEqual(list(book.sheet()), list(expected[1]))
        self.assertGreater(right, 300)

    def test_wrong_daybooks(self):
        words = ["", "0", "1", "01", "999999999", "1234567890", "a", "Bb", "up", "dead", "swap", "back", "return",
                 "keys", "width", "strike", "break", "mend", "show", "state", "faults", "most", "fault"]
        wrong = 0
        for _ in range(3000):
            rows = self.entries(KEYBOARD, 5)
            text = self.changed("\n".join(["keys aA bB 1!", "width 5"] + rows), words)
            place = reference.wrong_entry(text)
            with self.subTest(text=text):
                try:
                    Daybook(text)
                except DaybookError as error:
                    wrong += place is not None
                    self.assertEqual((error.row, error.word), place or (error.row, 0))
                else:
                    self.assertIsNone(place)
        self.assertGreater(wrong, 1500)


class WholeCasesTest(unittest.TestCase):
    """A case that was read from its text or its code is asked as the case itself is."""

    def test_read_again(self):
        source = random.Random(22)
        keyboard = Keyboard(("a,", "B.", "-Z", "0?", ";:"))
        for _ in range(60):
            width = source.randint(3, 20)
            pool = []
            for _ in range(10):
                fault = reference.random_fault(source, len(keyboard), width)
                pool += [fault] if fault not in pool else []
            case = Case(keyboard, width, tuple(pool), source.randint(0, 4))
            strokes = [reference.random_strokes(source, len(keyboard), 10) for _ in range(3)]
            faults = source.choice(fault_sets(case))
            machine = Machine(keyboard, width, faults)
            evidence = [(strokes[0], reference.sheet_by(machine, strokes[0]))]
            from_text, told = parse_case(format_case(case, evidence))
            self.assertEqual(told, evidence)
            for other in (from_text, decode_case(encode_case(case)), decode_case(encode_case(from_text))):
                self.assertIs(type(other), Case)
                self.assertEqual((other.keyboard, other.width, other.pool, other.most),
                                 (case.keyboard, case.width, case.pool, case.most))
                self.assertEqual(format_case(other, evidence), format_case(case, evidence))
                self.assertEqual(encode_case(other), encode_case(case))
                self.assertEqual(answers(other, told, strokes), answers(case, evidence, strokes))


def answers(case, evidence, tests):
    """What a case answers to all questions that it can be asked."""
    bench = Bench(case)
    reveal = Reveal(case, tests[1])
    return [cases.fault_sets(case), cases.possible(case, evidence), cases.first_wrong(case, evidence),
            [cases.judged(case, evidence, fault) for fault in case.pool], cases.fewest(case, evidence),
            [cases.machine_of(case, faults).faults for faults in cases.possible(case, evidence)],
            apart.groups(case, tests), apart.told_apart(case, tests), table(case, tests),
            trials.outcome_counts(case, evidence, tests[1]), trials.next_test(case, evidence, tests),
            trials.fewest_tests(case, evidence, tests), wears.possible_wears(case, tests[1], evidence[0][1]),
            bench.strike(*evidence[0]), bench.sets(), [bench.judge(fault) for fault in case.pool],
            reveal.left, reveal.best_cell()]
