"""Points 1, 9, 10 and 11: cases, and which faults there can be."""

import copy
import unittest

from typefault.cases import Case, fault_sets, fewest, first_wrong, judged, machine_of, possible
from typefault.errors import InvalidCase, InvalidEvidence, NoFit, UnknownFaults
from typefault.keyboards import Keyboard
from typefault.machines import Machine
from typefault.sheets import typed

KEYBOARD = Keyboard(("aA", "bB", "cC"))
ELEVEN = (("back",), ("dead", 0), ("dead", 1), ("double", 0), ("down",), ("feed", 0), ("slip", 1), ("slip", 2),
          ("space",), ("stuck", 0), ("up",))


class CaseCase(unittest.TestCase):
    def check_invalid(self, part, index, width, pool, most):
        with self.subTest(width=width, pool=pool, most=most):
            with self.assertRaises(InvalidCase) as caught:
                Case(KEYBOARD, width, pool, most)
            self.assertEqual((caught.exception.part, caught.exception.index), (part, index))
            self.assertIs(type(caught.exception.index), int)

    def check_evidence(self, index, evidence):
        """All that take evidence raise InvalidEvidence, whatever else is wrong."""
        case = Case(KEYBOARD, 5, (("dead", 0),), 1)
        calls = [lambda: possible(case, evidence), lambda: first_wrong(case, evidence),
                 lambda: judged(case, evidence, ("dead", 0)), lambda: judged(case, evidence, ("up",)),
                 lambda: fewest(case, evidence)]
        for call in calls:
            with self.assertRaises(InvalidEvidence) as caught:
                call()
            self.assertEqual(caught.exception.index, index)


class InvalidCaseTest(CaseCase):
    def test_width(self):
        for width in (2, 20):
            self.assertEqual(Case(KEYBOARD, width, (), 0).width, width)
        for width in (1, 21, 0, -5, True, 10 ** 20):
            self.check_invalid("width", 0, width, (), 0)

    def test_faults_out_of_range(self):
        wrong = [("dead", 3), ("dead", -1), ("double", True), ("stuck", 10), ("feed", 1), ("feed", False), ("slip", 0),
                 ("slip", 4), ("slip", True), ("swap", 1, 0), ("swap", 1, 1), ("swap", 0, 3), ("swap", False, 1)]
        for fault in wrong:
            self.check_invalid("pool", 0, 5, (fault,), 1)
            self.check_invalid("pool", 2, 5, (("up",), ("stuck", 0), fault, ("stuck", 9)), 1)

    def test_equal_faults(self):
        self.check_invalid("pool", 1, 5, (("up",), ("up",)), 1)
        self.check_invalid("pool", 3, 5, (("swap", 0, 1), ("dead", 1), ("up",), ("swap", 0, 1), ("dead", 9)), 1)

    def test_faults_that_clash_may_be_in_a_pool(self):
        pool = (("up",), ("down",), ("dead", 0), ("stuck", 0), ("swap", 0, 1), ("feed", 0), ("feed", 2))
        self.assertEqual(Case(KEYBOARD, 5, pool, 4).pool, pool)

    def test_eleventh_fault(self):
        self.assertEqual(Case(KEYBOARD, 5, ELEVEN[:10], 1).pool, ELEVEN[:10])
        self.check_invalid("pool", 10, 5, ELEVEN, 1)
        self.check_invalid("pool", 10, 5, ELEVEN + (("dead", 2),), 1)
        self.check_invalid("pool", 10, 5, ELEVEN[:10] + (("dead", 9), ("dead", 9)), 1)
        self.check_invalid("pool", 9, 5, ELEVEN[:9] + (("dead", 9), ("up",)), 1)
        self.check_invalid("pool", 9, 5, ELEVEN[:9] + (("back",), ("up",)), 1)

    def test_most(self):
        for most in range(5):
            self.assertEqual(Case(KEYBOARD, 5, (), most).most, most)
        for most in (-1, 5, True, False, 10 ** 20):
            self.check_invalid("most", 0, 5, (("up",),), most)

    def test_order_of_parts(self):
        self.check_invalid("width", 0, 21, (("up",), ("up",)), 5)
        self.check_invalid("pool", 1, 20, (("up",), ("up",)), 5)
        self.check_invalid("most", 0, 20, (("up",), ("down",)), 5)

    def test_properties(self):
        pool = (("up",), ("back",), ("swap", 0, 2), ("slip", 3))
        case = Case(KEYBOARD, 5, pool, 3)
        self.assertEqual((case.keyboard, case.width, case.pool, case.most), (KEYBOARD, 5, pool, 3))
        self.assertIs(type(case.pool), tuple)


class FaultSetsTest(CaseCase):
    def test_empty_pool(self):
        for most in (0, 4):
            self.assertEqual(fault_sets(Case(KEYBOARD, 5, (), most)), [()])

    def test_most_0(self):
        self.assertEqual(fault_sets(Case(KEYBOARD, 5, ELEVEN[:10], 0)), [()])

    def test_smaller_ones_first_then_in_tuple_order(self):
        case = Case(KEYBOARD, 5, (("up",), ("slip", 3), ("back",), ("slip", 1)), 2)
        back, one, three, up = ("back",), ("slip", 1), ("slip", 3), ("up",)
        expected = [(), (back,), (one,), (three,), (up,), (back, one), (back, three), (back, up), (one, three),
                    (one, up), (three, up)]
        self.assertEqual(fault_sets(case), expected)

    def test_most_greater_than_the_pool(self):
        back, up = ("back",), ("up",)
        self.assertEqual(fault_sets(Case(KEYBOARD, 5, (up, back), 4)), [(), (back,), (up,), (back, up)])

    def test_most_4(self):
        pool = tuple([("slip", column) for column in range(1, 11)])
        sets = fault_sets(Case(KEYBOARD, 20, pool, 4))
        self.assertEqual(len(sets), 1 + 10 + 45 + 120 + 210)
        self.assertEqual(sets[-1], (("slip", 7), ("slip", 8), ("slip", 9), ("slip", 10)))

    def test_no_set_has_faults_that_clash(self):
        pool = (("up",), ("down",), ("dead", 0), ("stuck", 0), ("swap", 0, 1), ("stuck", 1))
        sets = fault_sets(Case(KEYBOARD, 5, pool, 4))
        expected = [(("dead", 0), ("down",), ("stuck", 1)), (("dead", 0), ("stuck", 1), ("up",)),
                    (("down",), ("stuck", 0), ("stuck", 1)), (("stuck", 0), ("stuck", 1), ("up",))]
        self.assertEqual([faults for faults in sets if len(faults) > 2], expected)
        self.assertIn((("down",), ("swap", 0, 1)), sets)
        self.assertNotIn((("stuck", 1), ("swap", 0, 1)), sets)

    def test_list_may_be_modified(self):
        case = Case(KEYBOARD, 5, (("up",),), 1)
        fault_sets(case).clear()
        self.assertEqual(fault_sets(case), [(), (("up",),)])


class MachineOfTest(CaseCase):
    def setUp(self):
        self.case = Case(KEYBOARD, 5, (("up",), ("down",), ("back",), ("slip", 1)), 2)

    def test_machine(self):
        faults = (("back",), ("up",))
        self.assertEqual(machine_of(self.case, faults), Machine(KEYBOARD, 5, faults))
        self.assertEqual(machine_of(self.case, ()), Machine(KEYBOARD, 5, ()))

    def test_sets_that_there_cannot_be(self):
        wrong = [(("up",), ("back",)), (("down",), ("up",)), (("back",), ("slip", 1), ("up",)), (("space",),),
                 (("back",), ("back",)), (("slip", 2),), (("dead", 9),)]
        for faults in wrong:
            with self.subTest(faults=faults), self.assertRaises(UnknownFaults):
                machine_of(self.case, faults)


class PossibleTest(CaseCase):
    def setUp(self):
        self.case = Case(KEYBOARD, 5, (("stuck", 1), ("dead", 0), ("up",), ("dead", 1)), 2)
        self.truth = Machine(KEYBOARD, 5, [("dead", 0), ("stuck", 1)])

    def evidence_of(self, *tests):
        return [(strokes, typed(self.truth, strokes)) for strokes in tests]

    def test_no_evidence(self):
        self.assertEqual(possible(self.case, []), fault_sets(self.case))
        self.assertIsNone(first_wrong(self.case, []))

    def test_evidence(self):
        evidence = self.evidence_of([0])
        dead = ("dead", 0)
        expected = [(dead,), (dead, ("dead", 1)), (dead, ("stuck", 1)), (dead, ("up",))]
        self.assertEqual(possible(self.case, evidence), expected)
        evidence += self.evidence_of([1, 1])
        self.assertEqual(possible(self.case, evidence), [(dead, ("stuck", 1))])
        self.assertIsNone(first_wrong(self.case, evidence))

    def test_each_tuple_is_a_new_sheet(self):
        evidence = [(["up", 1], {(0, 0): "B"}), ([1], {(0, 0): "b"})]
        self.assertEqual(possible(self.case, evidence)[0], ())

    def test_strokes_may_be_tuples_and_cells_in_any_order(self):
        evidence = [((1, 2), {(0, 1): "c", (0, 0): "b"})]
        self.assertEqual(possible(self.case, evidence), [(), (("dead", 0),), (("up",),), (("dead", 0), ("up",))])

    def test_evidence_that_no_set_fits(self):
        evidence = self.evidence_of([0], [1, 1]) + [([2], {}), ([2], {})]
        self.assertEqual(possible(self.case, evidence), [])
        self.assertEqual(first_wrong(self.case, evidence), 2)

    def test_first_wrong_looks_at_the_tuples_together(self):
        evidence = [([0], {}), ([2], {(0, 0): "c"}), ([0], {(0, 0): "a"})]
        self.assertEqual(first_wrong(self.case, evidence), 2)
        self.assertEqual(first_wrong(self.case, evidence[::-1]), 2)
        self.assertIsNone(first_wrong(self.case, evidence[:2]))
        self.assertEqual(first_wrong(self.case, [([0], {(0, 0): "b"})] + evidence), 0)

    def test_sheets_must_be_equal_in_all_cells(self):
        for sheet in ({(0, 0): "b"}, {(0, 0): "b", (0, 1): "c", (1, 0): "a"}, {(0, 0): "bc"}, {(1, 0): "b", (0, 1): "c"}):
            self.assertEqual(possible(Case(KEYBOARD, 5, (), 0), [([1, 2], sheet)]), [])
        self.assertEqual(possible(Case(KEYBOARD, 5, (), 0), [([1, 2], {(0, 0): "b", (0, 1): "c"})]), [()])

    def test_invalid_evidence(self):
        right, sheet = ([0], {}), {(9, 9): "x"}
        self.check_evidence(0, [([3], sheet)])
        self.check_evidence(2, [right, right, ([0, True], sheet), (["left"], sheet)])
        self.check_evidence(1, [([2], sheet), ([0] * 61, sheet)])
        self.check_evidence(3, [([2], sheet), ([0] * 60, {}), right, ([-1], sheet)])

    def test_nothing_is_modified(self):
        evidence = self.evidence_of([0], [1, 1])
        kept = copy.deepcopy(evidence)
        for call in (possible, first_wrong, fewest):
            first = call(self.case, evidence)
            self.assertEqual(call(self.case, evidence), first)
        judged(self.case, evidence, ("up",))
        self.assertEqual(evidence, kept)
        possible(self.case, evidence).clear()
        fewest(self.case, evidence)[1].clear()
        self.assertEqual(len(possible(self.case, evidence)), 1)
        self.assertEqual(len(fewest(self.case, evidence)[1]), 1)


class JudgedTest(CaseCase):
    def setUp(self):
        self.case = Case(KEYBOARD, 5, (("stuck", 1), ("dead", 0), ("up",)), 2)

    def test_judged(self):
        evidence = [([0], {}), ([2, "up", 1], {(0, 0): "c", (0, 1): "B"})]
        self.assertEqual(judged(self.case, evidence, ("dead", 0)), "surely")
        self.assertEqual(judged(self.case, evidence, ("stuck", 1)), "perhaps")
        self.assertEqual(judged(self.case, evidence, ("up",)), "never")

    def test_no_evidence(self):
        for fault in self.case.pool:
            self.assertEqual(judged(self.case, [], fault), "perhaps")
        self.assertEqual(judged(Case(KEYBOARD, 5, (("up",),), 0), [], ("up",)), "never")

    def test_fault_that_is_not_in_the_pool(self):
        for fault in (("down",), ("dead", 1), ("stuck", 0), ("slip", 77)):
            with self.assertRaises(UnknownFaults):
                judged(self.case, [], fault)

    def test_order_of_errors(self):
        nothing_fits = [([2], {})]
        with self.assertRaises(InvalidEvidence):
            judged(self.case, nothing_fits + [([9], {})], ("down",))
        with self.assertRaises(UnknownFaults):
            judged(self.case, nothing_fits, ("down",))
        with self.assertRaises(NoFit):
            judged(self.case, nothing_fits, ("up",))


class FewestTest(CaseCase):
    def setUp(self):
        self.case = Case(KEYBOARD, 5, (("space",), ("stuck", 1), ("dead", 0), ("slip", 1)), 3)

    def test_no_evidence(self):
        self.assertEqual(fewest(self.case, []), (0, [()]))

    def test_several_sets(self):
        self.assertEqual(fewest(self.case, [(["space", "space", 1], {(0, 3): "b"})]), (1, [(("slip", 1),)]))
        case = Case(KEYBOARD, 5, (("slip", 2), ("slip", 1), ("dead", 1)), 3)
        self.assertEqual(fewest(case, [([0, 2], {(0, 0): "a", (0, 2): "c"})]), (1, [(("slip", 1),)]))
        self.assertEqual(fewest(case, [([0, "space", 2], {(0, 0): "a", (0, 3): "c"})]),
                         (1, [(("slip", 1),), (("slip", 2),)]))

    def test_larger_sets(self):
        evidence = [([0, 1, 2], {(0, 1): "b"}), ([2, 2], {(0, 0): "c"})]
        case = Case(KEYBOARD, 5, (("dead", 2), ("dead", 0), ("feed", 0)), 4)
        self.assertEqual(fewest(case, evidence[:1]), (2, [(("dead", 0), ("dead", 2))]))
        with self.assertRaises(NoFit):
            fewest(case, evidence)

    def test_order_of_errors(self):
        with self.assertRaises(NoFit):
            fewest(self.case, [([2], {})])
        with self.assertRaises(InvalidEvidence):
            fewest(self.case, [([2], {}), ([2, "x"], {})])
