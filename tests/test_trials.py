"""Points 1, 17 and 18: which tests to make next, and how many."""

import copy
import unittest

from typefault.cases import Case, fault_sets
from typefault.errors import InvalidEvidence, InvalidStrokes, InvalidTests, NoFit
from typefault.keyboards import Keyboard
from typefault.trials import fewest_tests, next_test, outcome_counts

KEYBOARD = Keyboard(("aA", "bB", "cC"))
CASE = Case(KEYBOARD, 5, (("stuck", 1), ("dead", 0), ("up",)), 2)
DEAD_KEYS = Case(KEYBOARD, 5, (("dead", 0), ("dead", 1), ("dead", 2)), 1)
# By this evidence key 0 is dead; nothing is known of the other faults.
DEAD = ([0], {})
NOTHING_FITS = ([2], {})


class OutcomeCountsTest(unittest.TestCase):
    def test_no_evidence(self):
        self.assertEqual(len(fault_sets(CASE)), 7)
        self.assertEqual(outcome_counts(CASE, [], [0]), [4, 3])
        self.assertEqual(outcome_counts(CASE, [], ("up", 1, 1)), [2, 2, 2, 1])

    def test_order_of_the_first_sets(self):
        case = Case(KEYBOARD, 5, (("dead", 2), ("stuck", 0), ("dead", 1)), 2)
        self.assertEqual(outcome_counts(case, [], [0, 1]), [2, 3, 2])
        self.assertEqual(outcome_counts(case, [], [1]), [4, 3])
        self.assertEqual(outcome_counts(DEAD_KEYS, [([0], {(0, 0): "a"})], [1]), [2, 1])
        self.assertEqual(outcome_counts(DEAD_KEYS, [([1], {})], [1]), [1])

    def test_evidence(self):
        self.assertEqual(outcome_counts(CASE, [DEAD], [0]), [3])
        self.assertEqual(outcome_counts(CASE, [DEAD], ["up", 1, 1]), [1, 1, 1])

    def test_strokes_that_tell_nothing(self):
        for strokes in ([], ["space"], [2, "return"]):
            self.assertEqual(outcome_counts(CASE, [], strokes), [7])

    def test_no_set_is_possible(self):
        self.assertEqual(outcome_counts(CASE, [NOTHING_FITS], [0]), [])

    def test_errors(self):
        with self.assertRaises(InvalidEvidence) as caught:
            outcome_counts(CASE, [DEAD, ([7], {})], [7])
        self.assertEqual(caught.exception.index, 1)
        for evidence in ([], [DEAD], [NOTHING_FITS]):
            for index, strokes in ((0, [3]), (1, [0, True]), (60, [0] * 61)):
                with self.assertRaises(InvalidStrokes) as caught:
                    outcome_counts(CASE, evidence, strokes)
                self.assertEqual(caught.exception.index, index)


class NextTestTest(unittest.TestCase):
    def test_fewest_sets_in_the_worst_case(self):
        self.assertEqual(next_test(CASE, [], [[0], ["up", 1, 1]]), 1)
        self.assertEqual(next_test(CASE, [], [["up", 1, 1], [0]]), 0)
        self.assertEqual(next_test(CASE, [], [[], [2], [0]]), 2)
        self.assertEqual(next_test(DEAD_KEYS, [], [[0], [0, 1], [0, 1, 2]]), 2)

    def test_first_of_several(self):
        self.assertEqual(next_test(CASE, [], [[0], [0], (0,)]), 0)
        self.assertEqual(next_test(CASE, [], [[], [0], [0, 0], [0]]), 1)
        self.assertEqual(next_test(DEAD_KEYS, [], [[2], [1], [0]]), 0)

    def test_tests_that_tell_nothing(self):
        self.assertEqual(next_test(CASE, [], [[], ["space"]]), 0)
        self.assertEqual(next_test(Case(KEYBOARD, 5, (), 0), [], [[0], [1]]), 0)

    def test_evidence(self):
        tests = [[0], [1, 2], ["up", 2]]
        self.assertEqual(next_test(CASE, [], tests), 0)
        self.assertEqual(next_test(CASE, [DEAD], tests), 1)
        self.assertEqual(next_test(CASE, [DEAD, ([1, 2], {(0, 0): "bc"})], tests), 0)

    def test_no_tests(self):
        self.assertIsNone(next_test(CASE, [], []))
        self.assertIsNone(next_test(CASE, [DEAD], []))

    def test_more_than_five_tests(self):
        self.assertEqual(next_test(CASE, [], [[]] * 8 + [[0]]), 8)

    def test_no_fit_also_without_tests(self):
        for tests in ([], [[0]]):
            self.assertRaises(NoFit, next_test, CASE, [NOTHING_FITS], tests)


class FewestTestsTest(unittest.TestCase):
    def test_no_tests_and_tests_that_tell_nothing(self):
        for tests in ([], [[]], [["space"], [2], ["back"]]):
            self.assertEqual(fewest_tests(CASE, [], tests), 0)

    def test_one_set(self):
        self.assertEqual(fewest_tests(Case(KEYBOARD, 5, (("up",),), 0), [], [[0], ["up", 0]]), 0)
        evidence = [DEAD, (["up", 1, 2], {(0, 0): "b", (0, 1): "c"})]
        self.assertEqual(fewest_tests(CASE, evidence, [[0], ["up", 1, 1]]), 0)

    def test_one_test(self):
        self.assertEqual(fewest_tests(CASE, [], [[0]]), 1)
        self.assertEqual(fewest_tests(CASE, [], [[0], [0], [0, 0]]), 1)
        self.assertEqual(fewest_tests(CASE, [], [["up", 1, 1]]), 1)

    def test_several_tests(self):
        self.assertEqual(fewest_tests(CASE, [], [[0], ["up", 1, 1]]), 2)
        self.assertEqual(fewest_tests(DEAD_KEYS, [], [[0], [1], [2]]), 3)

    def test_best_choice(self):
        # The last test alone tells all that the others tell together.
        self.assertEqual(fewest_tests(DEAD_KEYS, [], [[0], [1], [2], [0, 1, 2]]), 1)
        # The first one halves the sets, and one more test is enough for each half.
        self.assertEqual(fewest_tests(DEAD_KEYS, [], [[0], [1], [2], ["up", "return", 0, "return", 1]]), 2)

    def test_what_came_out_before_tells_the_next_test(self):
        case = Case(KEYBOARD, 5, (("back",), ("up",), ("slip", 1)), 1)
        # The first one leaves none and "up", or "back" and "slip"; another test tells each pair.
        tests = [["space", "back", 1], ["up", 1], ["space", 2, "back"]]
        self.assertEqual(fewest_tests(case, [], tests), 2)
        self.assertEqual(fewest_tests(case, [], tests[1:]), 2)
        self.assertEqual(fewest_tests(case, [], tests[:2]), 2)
        # In the worst case both others are needed without it, and do not tell "back".
        self.assertEqual(fewest_tests(case, [], tests[1:] + [["space", 0]]), 2)

    def test_evidence(self):
        self.assertEqual(fewest_tests(DEAD_KEYS, [([0], {(0, 0): "a"})], [[0], [1], [2]]), 2)
        self.assertEqual(fewest_tests(DEAD_KEYS, [([0], {})], [[0], [1], [2]]), 0)

    def test_five_and_six_tests(self):
        tests = [[0], [1], [2], [], [0]]
        self.assertEqual(fewest_tests(DEAD_KEYS, [], tests), 3)
        for more in ([[]], [[1], [2]]):
            with self.assertRaises(InvalidTests) as caught:
                fewest_tests(DEAD_KEYS, [], tests + more)
            self.assertEqual(caught.exception.index, 5)

    def test_invalid_strokes_go_ahead_of_the_sixth_test(self):
        for index in (0, 4, 5, 6, 7):
            tests = [[0]] * 8
            tests[index] = [0, 3]
            with self.assertRaises(InvalidTests) as caught:
                fewest_tests(DEAD_KEYS, [], tests)
            self.assertEqual(caught.exception.index, index)

    def test_no_fit(self):
        for tests in ([], [[0]], [[0]] * 5):
            self.assertRaises(NoFit, fewest_tests, CASE, [NOTHING_FITS], tests)
        self.assertRaises(InvalidTests, fewest_tests, CASE, [NOTHING_FITS], [[0]] * 6)


class ErrorsTest(unittest.TestCase):
    def test_invalid_evidence_goes_first(self):
        for call in (next_test, fewest_tests):
            for tests in ([], [[0]], [[9]], [[]] * 6):
                with self.assertRaises(InvalidEvidence) as caught:
                    call(CASE, [NOTHING_FITS, ([0] * 61, {})], tests)
                self.assertEqual(caught.exception.index, 1)

    def test_invalid_tests_go_ahead_of_no_fit(self):
        wrong = [(0, [[3]]), (1, [[0], [False], [9]]), (2, [[], [0] * 60, [0] * 61])]
        for call in (next_test, fewest_tests):
            for evidence in ([], [NOTHING_FITS]):
                for index, tests in wrong:
                    with self.assertRaises(InvalidTests) as caught:
                        call(CASE, evidence, tests)
                    self.assertEqual(caught.exception.index, index)

    def test_nothing_is_modified_and_calls_can_be_repeated(self):
        evidence, tests = [([0], {(0, 0): "a"})], [[0], ["up", 1, 1]]
        kept = copy.deepcopy((evidence, tests))
        for _ in range(2):
            counts = outcome_counts(CASE, evidence, tests[1])
            self.assertEqual(counts, [1, 1, 1, 1])
            counts.clear()
            self.assertEqual(next_test(CASE, evidence, tests), 1)
            self.assertEqual(fewest_tests(CASE, evidence, tests), 1)
        self.assertEqual((evidence, tests), kept)
        evidence[0][1][(0, 1)] = "a"
        self.assertEqual(outcome_counts(CASE, evidence, tests[1]), [])
        del evidence[0][1][(0, 1)]
        self.assertEqual(outcome_counts(CASE, evidence, tests[1]), [1, 1, 1, 1])
