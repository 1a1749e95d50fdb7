"""The package compared with tests/reference.py, over many machines and strokes that a fixed seed chooses."""

import itertools
import random
import unittest

from tests import reference
from typefault.apart import difference, groups, told_apart
from typefault.cases import Case, fault_sets, fewest, first_wrong, judged, machine_of, possible
from typefault.errors import InvalidText, InvalidWears
from typefault.far import line_far, state_far
from typefault.keyboards import Keyboard
from typefault.machines import Machine
from typefault.sheets import shown, spoiled, state_after, typed
from typefault.texts import confused, meant, strokes_of
from typefault.trials import fewest_tests, next_test, outcome_counts
from typefault.wears import possible_wears, typed_worn
from typefault.working import guilty, harmless, least_repairs, strokes_for

KEYBOARD = Keyboard(("aA", "bB", "1!"))
SMALL = Keyboard(("aA", "bB"))


def machine_from(source, most, keyboard=KEYBOARD, widths=(3, 4, 5, 8, 20)):
    width = source.choice(widths)
    return Machine(keyboard, width, reference.random_faults(source, len(keyboard), width, most))


def case_from(source, in_pool, most):
    width = source.choice((3, 5, 9))
    pool = []
    for _ in range(in_pool):
        fault = reference.random_fault(source, len(KEYBOARD), width)
        if fault not in pool:
            pool.append(fault)
    return Case(KEYBOARD, width, tuple(pool), most)


def spoiled_by(machine, strokes):
    sheet = reference.sheet_by(machine, strokes)
    right = reference.sheet_by(Machine(machine.keyboard, machine.width, ()), strokes)
    return sorted(cell for cell in {**sheet, **right} if sheet.get(cell) != right.get(cell))


def fits(case, faults, evidence):
    machine = Machine(case.keyboard, case.width, faults)
    return all(reference.sheet_by(machine, strokes) == sheet for strokes, sheet in evidence)


class ComparedTest(unittest.TestCase):
    def setUp(self):
        self.source = random.Random(20)

    def strokes(self, most):
        return reference.random_strokes(self.source, len(KEYBOARD), most)

    def test_sheets(self):
        for _ in range(1500):
            machine, strokes = machine_from(self.source, 6), self.strokes(60)
            with self.subTest(faults=machine.faults, width=machine.width, strokes=strokes):
                typist = reference.typist_behind(machine, strokes)
                sheet = typed(machine, strokes)
                self.assertEqual(list(sheet.items()), list(typist.sheet().items()))
                self.assertEqual(state_after(machine, strokes), typist.state())
                self.assertEqual(shown(sheet), reference.text_of(sheet))
                self.assertEqual(spoiled(machine, strokes), spoiled_by(machine, strokes))

    def evidence(self, case):
        """Evidence of a machine with one of the sets, in which now and then a tuple is wrong."""
        machine = machine_of(case, self.source.choice(fault_sets(case)))
        evidence = []
        for _ in range(self.source.randint(0, 3)):
            strokes = self.strokes(8)
            known = machine if self.source.random() < 0.9 else Machine(case.keyboard, case.width, ())
            evidence.append((strokes, typed(known, strokes)))
        return evidence

    def test_cases(self):
        for _ in range(150):
            case = case_from(self.source, self.source.randint(0, 8), self.source.randint(0, 4))
            sets = reference.sets_of(case.pool, case.most)
            self.assertEqual(fault_sets(case), sets)
            evidence = self.evidence(case)
            left = [faults for faults in sets if fits(case, faults, evidence)]
            self.assertEqual(possible(case, evidence), left)
            wrong = [index for index in range(len(evidence))
                     if not any(fits(case, faults, evidence[:index + 1]) for faults in sets)]
            self.assertEqual(first_wrong(case, evidence), wrong[0] if wrong else None)
            if left:
                least = min(map(len, left))
                self.assertEqual(fewest(case, evidence), (least, [faults for faults in left if len(faults) == least]))
                for fault in case.pool:
                    having = {fault in faults for faults in left}
                    expected = {(True,): "surely", (False,): "never"}.get(tuple(having), "perhaps")
                    self.assertEqual(judged(case, evidence, fault), expected)

    def test_groups(self):
        for _ in range(100):
            case = case_from(self.source, 6, 3)
            tests = [self.strokes(6) for _ in range(self.source.randint(0, 3))]
            sets = reference.sets_of(case.pool, case.most)
            outcomes = [[reference.sheet_by(Machine(KEYBOARD, case.width, faults), test) for test in tests]
                        for faults in sets]
            firsts = [index for index in range(len(sets)) if outcomes.index(outcomes[index]) == index]
            expected = [[sets[other] for other in range(len(sets)) if outcomes[other] == outcomes[index]]
                        for index in firsts]
            self.assertEqual(groups(case, tests), expected)
            self.assertEqual(told_apart(case, tests), [group[0] for group in expected if len(group) == 1])

    def test_difference(self):
        for _ in range(60):
            width, keys = self.source.choice((3, 4, 6)), len(SMALL)
            one, other = [Machine(SMALL, width, reference.random_faults(self.source, keys, width, 4)) for _ in "ab"]
            told = [strokes for strokes in reference.lists_of_strokes(SMALL, 3)
                    if reference.sheet_by(one, strokes) != reference.sheet_by(other, strokes)]
            with self.subTest(one=one.faults, other=other.faults, width=width):
                self.assertEqual(difference(one, other, 3), told[0] if told else None)

    def test_strokes_for(self):
        lists = list(reference.lists_of_strokes(SMALL, 5))
        for _ in range(12):
            machine = machine_from(self.source, 5, SMALL, (2, 3, 5))
            least = {}
            for strokes in lists:
                least.setdefault(tuple(reference.sheet_by(machine, strokes).items()), strokes)
            for text in ("ab", "bB", "a b", " A", "aab", "Aa", "  b", "bab", "aaaa", "bAb", "B B ", "bbb  "):
                wanted = tuple(((0, column), sign) for column, sign in enumerate(text) if sign != " ")
                found = strokes_for(machine, text)
                with self.subTest(faults=machine.faults, width=machine.width, text=text):
                    if wanted in least:
                        self.assertEqual(found, least[wanted])
                    elif found is not None:
                        self.assertGreater(len(found), 5)
                        typist = reference.typist_behind(machine, found)
                        self.assertEqual(tuple(typist.sheet().items()), wanted)

    def test_repairs(self):
        for _ in range(300):
            machine, strokes = machine_from(self.source, 5), self.strokes(12)
            repairs = [faults for many in range(6) for faults in itertools.combinations(machine.faults, many)
                       if not spoiled_by(machine.repaired(faults), strokes)]
            alone = [fault for fault in machine.faults
                     if not spoiled_by(Machine(KEYBOARD, machine.width, [fault]), strokes)]
            without = [fault for fault in machine.faults
                       if len(spoiled_by(machine.repaired([fault]), strokes)) < len(spoiled_by(machine, strokes))]
            with self.subTest(faults=machine.faults, width=machine.width, strokes=strokes):
                self.assertEqual(least_repairs(machine, strokes), (len(repairs[0]), repairs[0]))
                self.assertEqual(harmless(machine, strokes), alone)
                self.assertEqual(guilty(machine, strokes), without)

    def test_far(self):
        for _ in range(250):
            machine, strokes = machine_from(self.source, 4), self.strokes(12)
            count = self.source.randint(0, 9)
            typist = reference.typist_behind(machine, strokes * count)
            lines = reference.text_of(typist.sheet()).split("\n")
            with self.subTest(faults=machine.faults, width=machine.width, strokes=strokes, count=count):
                self.assertEqual(state_far(machine, strokes, count), typist.state())
                for line in range(len(lines) + 2):
                    expected = lines[line] if line < len(lines) else ""
                    self.assertEqual(line_far(machine, strokes, count, line), expected)

    def test_farther(self):
        """The carriage and the lock come back after at most 40 repetitions, so that far ones are like near ones."""
        period = 840
        for _ in range(100):
            machine, strokes = machine_from(self.source, 4, widths=(3, 4)), self.strokes(6)
            near, far = 50, 50 + 10 ** 12 * period
            each = reference.typist_behind(machine, strokes).line
            typist = reference.typist_behind(machine, strokes * near)
            lines = reference.text_of(typist.sheet()).split("\n")
            with self.subTest(faults=machine.faults, width=machine.width, strokes=strokes):
                line, column, locked = typist.state()
                self.assertEqual(state_far(machine, strokes, far), (line + each * (far - near), column, locked))
                for back in range(3 * each):
                    expected = lines[line - back] if line - back < len(lines) else ""
                    self.assertEqual(line_far(machine, strokes, far, line + each * (far - near) - back), expected)

    def test_trials(self):
        for _ in range(120):
            case = case_from(self.source, self.source.randint(0, 6), self.source.randint(0, 3))
            evidence = self.evidence(case)
            left = [faults for faults in reference.sets_of(case.pool, case.most) if fits(case, faults, evidence)]
            tests = [self.strokes(5) for _ in range(self.source.randint(0, 4))]
            rows = [[reference.sheet_by(Machine(KEYBOARD, case.width, faults), test) for test in tests]
                    for faults in left]
            for index, test in enumerate(tests):
                column = [row[index] for row in rows]
                firsts = [at for at, sheet in enumerate(column) if column.index(sheet) == at]
                expected = [column.count(column[at]) for at in firsts]
                self.assertEqual(outcome_counts(case, evidence, test), expected)
            if left:
                worst = [max([row[index] for row in rows].count(row[index]) for row in rows)
                         for index in range(len(tests))]
                self.assertEqual(next_test(case, evidence, tests), worst.index(min(worst)) if tests else None)
                self.assertEqual(fewest_tests(case, evidence, tests), reference.depth_of(rows, range(len(tests))))

    def test_wears(self):
        for _ in range(250):
            machine, strokes = machine_from(self.source, 2), self.strokes(10)
            faults = [reference.random_fault(self.source, 3, machine.width) for _ in range(3)]
            wears = [(self.source.randint(0, 10), fault) for fault in faults]
            with self.subTest(faults=machine.faults, width=machine.width, wears=wears, strokes=strokes):
                having = list(machine.faults) + faults
                wrong = [index for index in range(3) if any(reference.clash(faults[index], other)
                                                            for other in having[:len(machine.faults) + index])]
                if wrong:
                    with self.assertRaises(InvalidWears) as caught:
                        typed_worn(machine, wears, strokes)
                    self.assertEqual(caught.exception.index, wrong[0])
                else:
                    sheet = typed_worn(machine, wears, strokes)
                    expected = reference.sheet_worn_by(machine, wears, strokes)
                    self.assertEqual(list(sheet.items()), list(expected.items()))

    def test_possible_wears(self):
        for _ in range(60):
            case, strokes = case_from(self.source, 6, 0), self.strokes(8)
            machine = Machine(KEYBOARD, case.width, ())
            wears = sorted((count, fault) for count in range(len(strokes)) for fault in case.pool)
            sheets = [reference.sheet_worn_by(machine, [wear], strokes) for wear in wears]
            for sheet in sheets[:6] + [typed(machine, strokes)]:
                expected = [wear for wear, other in zip(wears, sheets) if other == sheet]
                self.assertEqual(possible_wears(case, strokes, sheet), expected)

    def test_texts(self):
        for _ in range(150):
            machine = machine_from(self.source, 4)
            texts = ["".join(self.source.choice("aAbB1! \n") for _ in range(self.source.randint(0, 3)))
                     for _ in range(8)]
            sheets = [reference.sheet_by(machine, reference.strokes_of_text(KEYBOARD.key_signs, text))
                      for text in texts]
            pairs = [(one, other) for other in range(8) for one in range(other) if sheets[one] == sheets[other]]
            with self.subTest(faults=machine.faults, texts=texts):
                self.assertEqual(confused(machine, texts), sorted(pairs))
                self.assertEqual(meant(machine, texts, sheets[3]), [at for at in range(8) if sheets[at] == sheets[3]])

    def test_strokes_of(self):
        for _ in range(150):
            text = "".join(self.source.choice("aaAbB1! \n") for _ in range(self.source.randint(20, 60)))
            with self.subTest(text=text):
                too_long = [index for index in range(len(text))
                            if len(reference.strokes_of_text(KEYBOARD.key_signs, text[:index + 1])) > 60]
                if too_long:
                    with self.assertRaises(InvalidText) as caught:
                        strokes_of(KEYBOARD, text)
                    self.assertEqual(caught.exception.index, too_long[0])
                else:
                    expected = reference.strokes_of_text(KEYBOARD.key_signs, text)
                    self.assertEqual(strokes_of(KEYBOARD, text), expected)
