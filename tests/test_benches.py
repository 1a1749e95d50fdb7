"""Points 1, 23 and 24: a bench, its operations, and trials on it."""

import copy
import unittest

from typefault.benches import Bench, Trial
from typefault.cases import Case, fault_sets, possible
from typefault.errors import (InvalidName, InvalidOperation, InvalidStrokes, NoFit, UnknownFaults, UnknownMark,
                              WriterError)
from typefault.keyboards import Keyboard

KEYBOARD = Keyboard(("aA", "bB", "cC"))
DEAD, STUCK, UP, DOWN, SLIP = ("dead", 0), ("stuck", 1), ("up",), ("down",), ("slip", 2)
CASE = Case(KEYBOARD, 5, (DEAD, UP, STUCK), 2)
ALL = [(), (DEAD,), (STUCK,), (UP,), (DEAD, STUCK), (DEAD, UP), (STUCK, UP)]
A = {(0, 0): "a"}
NO_FIT = ("strike", [0], {(0, 0): "b"})


def bench_behind(*operations, case=CASE):
    return Bench.replay(case, list(operations))


def told(bench):
    """All that can be seen of a bench, and what undo and redo would give; the bench is as before."""
    seen = [(bench.sets(), bench.marks, bench.history)]
    undone = 0
    while bench.undo():
        undone += 1
        seen.append((bench.sets(), bench.marks, bench.history))
    for _ in range(undone):
        bench.redo()
    redone = 0
    while bench.redo():
        redone += 1
        seen.append((bench.sets(), bench.marks, bench.history))
    for _ in range(redone):
        bench.undo()
    return seen


class BenchTestCase(unittest.TestCase):
    def check_error(self, bench, error, call, *arguments):
        """The call raises the error, and changes nothing."""
        before = told(bench)
        with self.assertRaises(error) as caught:
            call(*arguments)
        self.assertIs(type(caught.exception), error)
        self.assertEqual(told(bench), before)
        return caught.exception


class StrikeTest(BenchTestCase):
    def test_at_first_all_sets_are_possible(self):
        self.assertEqual(Bench(CASE).sets(), ALL)
        self.assertEqual(Bench(CASE).sets(), fault_sets(CASE))
        self.assertEqual(Bench(Case(KEYBOARD, 5, (DEAD,), 0)).sets(), [()])
        self.assertEqual((Bench(CASE).marks, Bench(CASE).history), ([], []))

    def test_what_fits_is_left(self):
        bench = Bench(CASE)
        self.assertEqual(bench.strike([0], A), 4)
        self.assertEqual(bench.sets(), [(), (STUCK,), (UP,), (STUCK, UP)])
        self.assertEqual(bench.strike(("up", 1, 1), {(0, 0): "b"}), 1)
        self.assertEqual(bench.sets(), [(STUCK, UP)])
        self.assertEqual(bench.strike([], {}), 1)

    def test_each_time_on_a_new_sheet(self):
        bench = Bench(CASE)
        evidence = [([0, 1], {(0, 1): "b"}), (["up", 2, 1], {(0, 0): "C", (0, 1): "B"})]
        for strokes, sheet in evidence:
            bench.strike(strokes, sheet)
        self.assertEqual(bench.sets(), possible(CASE, evidence))

    def test_no_set_fits(self):
        bench = bench_behind(("strike", [0], A))
        self.check_error(bench, NoFit, bench.strike, [0], {})
        self.check_error(bench, NoFit, bench.strike, [], A)
        bench = Bench(CASE)
        self.check_error(bench, NoFit, bench.strike, [0], {(0, 0): "b"})

    def test_invalid_strokes_go_first(self):
        bench = bench_behind(("strike", [0], A))
        for strokes, index in (([3], 0), ([0, "x"], 1), ([False], 0), ([0] * 61, 60)):
            for sheet in (A, {}, {(0, 0): "b"}):
                self.assertEqual(self.check_error(bench, InvalidStrokes, bench.strike, strokes, sheet).index, index)


class RepairTest(BenchTestCase):
    def test_sets_that_become_equal_are_one(self):
        bench = Bench(CASE)
        self.assertEqual(bench.repair(DEAD), 4)
        self.assertEqual(bench.sets(), [(), (STUCK,), (UP,), (STUCK, UP)])
        self.assertEqual(bench.repair(STUCK), 2)
        self.assertEqual(bench.sets(), [(), (UP,)])
        self.assertEqual(bench.repair(UP), 1)
        self.assertEqual(bench.sets(), [()])

    def test_if_it_was_there(self):
        bench = bench_behind(("repair", DEAD))
        self.assertEqual(bench.repair(DEAD), 4)
        self.assertEqual(bench.history, [("repair", DEAD), ("repair", DEAD)])

    def test_sets_are_in_order_then(self):
        case = Case(KEYBOARD, 6, (("back",), SLIP, STUCK, UP), 2)
        bench = bench_behind(("strike", [1, 0], {(0, 0): "ab"}), case=case)
        self.assertEqual(bench.sets(), [(STUCK,), (("back",), STUCK), (SLIP, STUCK), (STUCK, UP)])
        bench.repair(STUCK)
        self.assertEqual(bench.sets(), [(), (("back",),), (SLIP,), (UP,)])
        bench = bench_behind(("wear", UP), ("repair", ("back",)), case=case)
        self.assertEqual(bench.sets(), [(UP,), (SLIP, UP), (STUCK, UP)])
        case = Case(KEYBOARD, 6, (("back",), SLIP, UP), 3)
        bench = bench_behind(("strike", [0, 1, 2], {(0, 0): "a", (0, 1): "b", (0, 3): "c"}), ("repair", ("back",)),
                             ("repair", SLIP), case=case)
        self.assertEqual(bench.sets(), [(), (UP,)])

    def test_unknown_faults(self):
        bench = bench_behind(("strike", [0], A))
        for fault in (DOWN, ("dead", 1), ("stuck", 0), ("back",), ("swap", 0, 1)):
            self.check_error(bench, UnknownFaults, bench.repair, fault)
        empty = Bench(Case(KEYBOARD, 5, (), 4))
        self.check_error(empty, UnknownFaults, empty.repair, DEAD)


class WearTest(BenchTestCase):
    def test_sets_that_can_have_it(self):
        bench = Bench(CASE)
        self.assertEqual(bench.wear(UP), 3)
        self.assertEqual(bench.sets(), [(UP,), (DEAD, UP), (STUCK, UP)])

    def test_as_many_faults_as_the_case_allows(self):
        for most in range(4):
            bench = Bench(Case(KEYBOARD, 5, (DEAD, UP, STUCK), most))
            if most == 0:
                self.check_error(bench, NoFit, bench.wear, DEAD)
            else:
                self.assertEqual(bench.wear(DEAD), [1, 3, 4][most - 1])
                self.assertTrue(all(DEAD in faults and len(faults) <= most for faults in bench.sets()))

    def test_clashes(self):
        case = Case(KEYBOARD, 5, (DEAD, ("double", 0), ("swap", 0, 2), UP, DOWN), 3)
        bench = bench_behind(("wear", DEAD), case=case)
        self.assertEqual(bench.sets(), [(DEAD,), (DEAD, DOWN), (DEAD, UP)])
        bench = bench_behind(("wear", DOWN), case=case)
        self.assertEqual(bench.sets(), [(DOWN,), (DEAD, DOWN), (("double", 0), DOWN), (DOWN, ("swap", 0, 2))])

    def test_wears_that_clash_with_all_sets(self):
        case = Case(KEYBOARD, 5, (DEAD, ("double", 0), UP, DOWN), 3)
        bench = bench_behind(("strike", [0], {}), case=case)
        for fault in (DEAD, ("double", 0)):
            self.check_error(bench, NoFit, bench.wear, fault)
        bench = bench_behind(("wear", UP), case=case)
        for fault in (UP, DOWN):
            self.check_error(bench, NoFit, bench.wear, fault)

    def test_unknown_faults_go_first(self):
        case = Case(KEYBOARD, 5, (DEAD,), 0)
        for fault in (UP, ("dead", 1)):
            bench = Bench(case)
            self.check_error(bench, UnknownFaults, bench.wear, fault)

    def test_repaired_and_come_again(self):
        bench = bench_behind(("repair", DEAD))
        self.assertEqual(bench.wear(DEAD), 3)
        self.assertEqual(bench.sets(), [(DEAD,), (DEAD, STUCK), (DEAD, UP)])
        self.assertEqual(bench.strike([0], {}), 3)


class MarkTest(BenchTestCase):
    def test_names(self):
        bench = Bench(CASE)
        for name in ("a", "z", "abcdefgh", "zzzzzzzz"):
            self.assertIs(bench.mark(name), False)
        self.assertEqual(bench.marks, ["a", "abcdefgh", "z", "zzzzzzzz"])

    def test_invalid_names(self):
        bench = bench_behind(("mark", "a"))
        for name in ("", "abcdefghi", "a" * 100, "A", "aB", "a1", "1", "a b", " a", "a\n", "a_", "-", "\u00e4",
                     "\u0430"):
            self.check_error(bench, InvalidName, bench.mark, name)

    def test_whether_there_was_a_mark(self):
        bench = Bench(CASE)
        self.assertEqual([bench.mark(name) for name in ("x", "y", "x", "y", "z")], [False, False, True, True, False])
        self.assertEqual(bench.marks, ["x", "y", "z"])

    def test_go(self):
        bench = bench_behind(("mark", "x"), ("strike", [0], A))
        self.assertEqual(bench.go("x"), 7)
        self.assertEqual(bench.sets(), ALL)
        self.assertEqual(bench.history, [("mark", "x"), ("strike", [0], A), ("go", "x")])
        bench.undo()
        self.assertEqual(len(bench.sets()), 4)

    def test_go_to_the_last_one(self):
        bench = bench_behind(("mark", "x"), ("strike", [0], A), ("mark", "x"), ("repair", UP))
        self.assertEqual(len(bench.sets()), 2)
        self.assertEqual(bench.go("x"), 4)
        self.assertEqual(bench.go("x"), 4)

    def test_an_earlier_one_counts_again_if_the_last_one_is_undone(self):
        bench = bench_behind(("mark", "x"), ("strike", [0], A), ("mark", "x"), ("repair", UP))
        self.assertEqual([bench.undo(), bench.undo()], [True, True])
        self.assertEqual(bench.marks, ["x"])
        self.assertEqual(bench.go("x"), 7)
        self.assertEqual(bench.history, [("mark", "x"), ("strike", [0], A), ("go", "x")])
        bench = bench_behind(("mark", "x"), ("strike", [0], A), ("mark", "x"), ("undo",), ("redo",), ("repair", UP))
        self.assertEqual(bench.go("x"), 4)

    def test_a_mark_that_is_undone(self):
        bench = bench_behind(("mark", "x"), ("mark", "y"), ("undo",))
        self.assertEqual(bench.marks, ["x"])
        self.check_error(bench, UnknownMark, bench.go, "y")
        self.assertIs(bench.mark("y"), False)

    def test_marks_that_were_set_since_stay(self):
        bench = bench_behind(("mark", "x"), ("strike", [0], A), ("mark", "y"), ("go", "x"), ("repair", UP))
        self.assertEqual(bench.marks, ["x", "y"])
        self.assertEqual(bench.go("y"), 4)
        self.assertEqual(bench.go("x"), 7)
        self.assertIs(bench.mark("y"), True)

    def test_marks_behind_a_go(self):
        bench = bench_behind(("mark", "x"), ("strike", [0], A), ("go", "x"), ("mark", "y"))
        self.assertEqual(bench.marks, ["x", "y"])
        bench.undo()
        self.assertEqual(bench.marks, ["x"])
        bench.undo()
        self.assertEqual((bench.marks, len(bench.sets())), (["x"], 4))

    def test_unknown_marks(self):
        bench = bench_behind(("mark", "x"))
        for name in ("y", "", "X", "xx", "abcdefghijk"):
            self.check_error(bench, UnknownMark, bench.go, name)


class JudgeTest(BenchTestCase):
    def test_surely_perhaps_never(self):
        bench = bench_behind(("strike", [0], {}))
        self.assertEqual([bench.judge(fault) for fault in (DEAD, UP, STUCK)], ["surely", "perhaps", "perhaps"])
        bench.repair(DEAD)
        self.assertEqual([bench.judge(fault) for fault in (DEAD, UP, STUCK)], ["never", "perhaps", "perhaps"])
        bench.wear(UP)
        self.assertEqual(bench.judge(UP), "surely")
        bench.undo()
        self.assertEqual(bench.judge(UP), "perhaps")

    def test_case_without_faults(self):
        self.assertEqual(Bench(Case(KEYBOARD, 5, (DEAD,), 0)).judge(DEAD), "never")

    def test_unknown_faults(self):
        bench = bench_behind(("strike", [0], {}))
        for fault in (DOWN, ("dead", 1), ("back",)):
            self.check_error(bench, UnknownFaults, bench.judge, fault)

    def test_it_is_no_operation(self):
        bench = bench_behind(("strike", [0], {}), ("undo",))
        bench.judge(DEAD), bench.sets(), bench.marks, bench.history
        self.assertIs(bench.redo(), True)


class HistoryTest(BenchTestCase):
    OPERATIONS = [("mark", "x"), ("strike", [0, "up"], A), ("repair", STUCK), ("wear", STUCK),
                  ("strike", (1,), {(0, 0): "b"}), ("go", "x")]

    def test_operations_in_effect(self):
        bench = Bench(CASE)
        bench.mark("x")
        bench.strike([0, "up"], A)
        bench.repair(STUCK)
        bench.wear(STUCK)
        bench.strike((1,), {(0, 0): "b"})
        bench.go("x")
        self.assertEqual(bench.history, self.OPERATIONS)
        for number in range(5, -1, -1):
            bench.undo()
            self.assertEqual(bench.history, self.OPERATIONS[:number])

    def test_replay_of_a_history(self):
        bench = bench_behind(*self.OPERATIONS, ("undo",), ("undo",))
        other = Bench.replay(CASE, bench.history)
        self.assertIsInstance(other, Bench)
        self.assertEqual((other.sets(), other.marks, other.history), (bench.sets(), bench.marks, bench.history))
        self.assertEqual((bench.redo(), other.redo()), (True, False))

    def test_what_is_returned_may_be_changed(self):
        bench = bench_behind(*copy.deepcopy(self.OPERATIONS[:5]))
        before = copy.deepcopy((bench.sets(), bench.marks, bench.history))
        for _ in range(2):
            bench.sets().clear()
            bench.marks.append("y")
            history = bench.history
            history[1][1].append(0)
            history[1][2][(0, 4)] = "a"
            history[4][2].clear()
            history.clear()
            self.assertEqual((bench.sets(), bench.marks, bench.history), before)
        bench.undo()
        bench.redo()
        self.assertEqual((bench.sets(), bench.marks, bench.history), before)

    def test_what_was_handed_in_may_be_changed(self):
        bench = Bench(CASE)
        strokes, sheet = [0], {(0, 0): "a"}
        bench.strike(strokes, sheet)
        strokes.append("x")
        sheet.clear()
        self.assertEqual(bench.history, [("strike", [0], A)])
        operations = [("strike", [1, 1], {(0, 0): "b"}), ("mark", "x")]
        bench.apply_all(operations)
        operations[0][1].clear()
        operations[0][2][(4, 4)] = "c"
        operations.clear()
        expected = [("strike", [0], A), ("strike", [1, 1], {(0, 0): "b"}), ("mark", "x")]
        self.assertEqual(bench.history, expected)
        bench.undo()
        bench.undo()
        self.assertEqual([bench.redo(), bench.redo(), bench.history], [True, True, expected])

    def test_what_is_handed_in_is_not_changed(self):
        operations = copy.deepcopy(self.OPERATIONS)
        bench = Bench.replay(CASE, operations)
        bench.tried(operations, True)
        bench.apply_all(operations)
        self.assertEqual(operations, self.OPERATIONS)

    def test_two_benches_share_nothing(self):
        one, other = Bench(CASE), Bench(CASE)
        one.mark("x")
        one.strike([0], A)
        self.assertEqual((other.sets(), other.marks, other.history), (ALL, [], []))


class UndoTest(BenchTestCase):
    def test_nothing_to_undo_or_redo(self):
        bench = Bench(CASE)
        for _ in range(2):
            self.assertIs(bench.undo(), False)
            self.assertIs(bench.redo(), False)
        self.assertEqual(told(bench), told(Bench(CASE)))
        bench.mark("x")
        self.assertIs(bench.redo(), False)

    def test_ends_of_the_history(self):
        bench = bench_behind(("strike", [0], A), ("repair", UP))
        self.assertEqual([bench.undo() for _ in range(4)], [True, True, False, False])
        self.assertEqual(bench.sets(), ALL)
        self.assertEqual([bench.redo() for _ in range(4)], [True, True, False, False])
        self.assertEqual(bench.history, [("strike", [0], A), ("repair", UP)])
        self.assertEqual(bench.sets(), [(), (STUCK,)])

    def test_redo_in_order(self):
        bench = bench_behind(("repair", DEAD), ("repair", UP), ("undo",), ("undo",))
        bench.redo()
        self.assertEqual(bench.history, [("repair", DEAD)])
        bench.redo()
        self.assertEqual(bench.history, [("repair", DEAD), ("repair", UP)])

    def test_no_redo_behind_a_new_operation(self):
        for operation in (("strike", [], {}), ("repair", UP), ("wear", UP), ("mark", "y"), ("go", "x")):
            bench = bench_behind(("mark", "x"), ("repair", DEAD), ("repair", STUCK), ("undo",), ("undo",), operation)
            self.assertEqual([bench.redo(), bench.history], [False, [("mark", "x"), operation]])

    def test_redo_behind_an_operation_that_raises_an_error(self):
        bench = bench_behind(("repair", DEAD), ("undo",))
        for error, call, arguments in ((NoFit, bench.strike, NO_FIT[1:]), (InvalidStrokes, bench.strike, [[9], {}]),
                                       (UnknownFaults, bench.repair, [DOWN]), (UnknownFaults, bench.wear, [DOWN]),
                                       (InvalidName, bench.mark, [""]), (UnknownMark, bench.go, ["x"]),
                                       (InvalidOperation, bench.apply_all, [[("undo",), ()]])):
            self.check_error(bench, error, call, *arguments)
        self.assertIs(bench.redo(), True)

    def test_undo_of_each_operation(self):
        start = [("mark", "x"), ("strike", [0], A)]
        for operation in (("strike", [1, 1], {(0, 0): "b"}), ("repair", UP), ("wear", UP), ("mark", "x"),
                          ("mark", "y"), ("go", "x")):
            bench = bench_behind(*start)
            before = told(bench)
            bench.apply_all([operation])
            behind = (bench.sets(), bench.marks, bench.history)
            self.assertIs(bench.undo(), True)
            self.assertEqual((bench.sets(), bench.marks, bench.history), before[0])
            self.assertIs(bench.redo(), True)
            self.assertEqual((bench.sets(), bench.marks, bench.history), behind)


MALFORMED = [(), ("strike",), ("strike", [0]), ("strike", [0], {}, 0), ("repair",), ("repair", DEAD, UP), ("wear",),
             ("wear", DEAD, 1), ("mark",), ("mark", "x", "y"), ("go",), ("go", "x", "x"), ("undo", 1), ("redo", 1),
             ("judge", DEAD), ("sets",), ("marks",), ("apply_all", []), ("tried", [], True), ("history",), ("Undo",),
             ("",), ["undo"], ["mark", "x"], "undo", "go", None, 3, (3,), (None, 1), (("undo",),), (["undo"],),
             {"undo": 0}]


class ApplyAllTest(BenchTestCase):
    def test_results(self):
        bench = Bench(CASE)
        operations = [("undo",), ("mark", "x"), ("mark", "x"), ("strike", [0], A), ("undo",), ("redo",), ("redo",),
                      ("repair", UP), ("wear", UP), ("go", "x")]
        self.assertEqual(bench.apply_all(operations), [False, False, True, 4, True, True, False, 2, 2, 7])
        self.assertEqual([name for name, *_ in bench.history], ["mark", "mark", "strike", "repair", "wear", "go"])

    def test_as_each_one_alone(self):
        operations = [("mark", "x"), ("strike", [0], A), ("undo",), ("redo",), ("repair", UP), ("undo",), ("wear", UP)]
        bench, other = Bench(CASE), Bench(CASE)
        results = [other.mark("x"), other.strike([0], A), other.undo(), other.redo(), other.repair(UP), other.undo(),
                   other.wear(UP)]
        self.assertEqual(bench.apply_all(operations), results)
        self.assertEqual(told(bench), told(other))

    def test_no_operations(self):
        bench = bench_behind(("repair", DEAD), ("undo",))
        self.assertEqual(bench.apply_all([]), [])
        self.assertIs(bench.redo(), True)

    def test_undo_of_what_was_done_before(self):
        bench = bench_behind(("repair", DEAD), ("repair", UP))
        self.assertEqual(bench.apply_all([("undo",), ("undo",), ("undo",), ("redo",)]), [True, True, False, True])
        self.assertEqual(bench.history, [("repair", DEAD)])
        self.assertIs(bench.redo(), True)

    def test_malformed_operations(self):
        bench = bench_behind(("repair", DEAD), ("mark", "x"), ("undo",))
        calls = [bench.apply_all, lambda operations: bench.tried(operations, True),
                 lambda operations: bench.tried(operations, False), lambda operations: Bench.replay(CASE, operations)]
        for operation in MALFORMED:
            for call in calls:
                with self.subTest(operation=operation):
                    for index, ahead in enumerate(([], [("undo",)], [("undo",), ("mark", "y")])):
                        error = self.check_error(bench, InvalidOperation, call, ahead + [operation, ()])
                        self.assertEqual(error.index, index)

    def test_malformed_ahead_of_and_behind_one_that_raises_an_error(self):
        bench = bench_behind(("repair", DEAD), ("mark", "x"), ("undo",))
        for call in (bench.apply_all, lambda operations: Bench.replay(CASE, operations)):
            error = self.check_error(bench, InvalidOperation, call, [("undo",), ("wear",), NO_FIT])
            self.assertEqual(error.index, 1)
            error = self.check_error(bench, InvalidOperation, call, [("undo",), NO_FIT, ("mark", ""), ("wear",)])
            self.assertEqual(error.index, 3)

    def test_an_error_in_the_midst(self):
        wrong = [(NO_FIT, NoFit), (("strike", [0, 9], A), InvalidStrokes), (("repair", DOWN), UnknownFaults),
                 (("wear", DOWN), UnknownFaults), (("wear", STUCK), NoFit), (("mark", "X"), InvalidName),
                 (("go", "y"), UnknownMark)]
        for at_first in ([], [("repair", DEAD), ("mark", "x"), ("undo",)], [("mark", "x"), ("repair", UP), ("undo",)]):
            for operation, error in wrong:
                for ahead in ([], [("undo",)], [("redo",)], [("mark", "z")],
                              [("undo",), ("repair", UP), ("mark", "z")]):
                    bench = bench_behind(*at_first)
                    # Only then no set can have one more fault.
                    ahead = ahead + [("wear", STUCK)] if operation == ("wear", STUCK) else ahead
                    caught = self.check_error(bench, error, bench.apply_all, ahead + [operation, ("mark", "w")])
                    self.assertEqual(getattr(caught, "index", 1), 1)
                    for keep in (True, False):
                        self.check_error(bench, error, bench.tried, ahead + [operation], keep)

    def test_replay(self):
        bench = Bench.replay(CASE, [("mark", "x"), ("strike", [0], A), ("repair", UP), ("undo",)])
        self.assertEqual(bench.history, [("mark", "x"), ("strike", [0], A)])
        self.assertEqual((len(bench.sets()), bench.marks, bench.redo()), (4, ["x"], True))
        self.assertEqual(told(Bench.replay(CASE, [])), told(Bench(CASE)))
        self.assertRaises(NoFit, Bench.replay, CASE, [("mark", "x"), NO_FIT])
        self.assertRaises(UnknownMark, Bench.replay, CASE, [("mark", "x"), ("undo",), ("go", "x")])
        self.assertRaises(UnknownFaults, bench.replay, Case(KEYBOARD, 5, (UP,), 2), [("repair", DEAD)])

    def test_operations_as_a_tuple(self):
        self.assertEqual(Bench(CASE).apply_all((("mark", "x"), ("undo",))), [False, True])


class TrialTest(BenchTestCase):
    def setUp(self):
        self.bench = bench_behind(("mark", "x"), ("strike", [0], A), ("repair", UP), ("undo",))
        self.before = told(self.bench)

    def change(self):
        """Change what is possible, the marks, the history, and what undo and redo do."""
        self.bench.undo()
        self.bench.wear(UP)
        self.bench.mark("y")
        self.bench.undo()

    def test_without_hold(self):
        with Trial(self.bench) as trial:
            self.assertIsInstance(trial, Trial)
            self.assertEqual(told(self.bench), self.before)
            self.change()
            self.assertEqual(self.bench.history, [("mark", "x"), ("wear", UP)])
        self.assertEqual(told(self.bench), self.before)
        self.assertIs(self.bench.redo(), True)
        self.assertEqual(self.bench.history[-1], ("repair", UP))

    def test_with_hold(self):
        with Trial(self.bench) as trial:
            self.change()
            trial.hold()
            self.bench.mark("z")
            changed = told(self.bench)
        self.assertEqual(told(self.bench), changed)
        self.assertEqual(self.bench.history, [("mark", "x"), ("wear", UP), ("mark", "z")])

    def test_hold_ahead_of_all_changes_and_twice(self):
        with Trial(self.bench) as trial:
            trial.hold()
            trial.hold()
            self.change()
        self.assertEqual(self.bench.history, [("mark", "x"), ("wear", UP)])

    def test_an_error_leaves_it(self):
        for held in (False, True):
            for error in (NoFit("x"), KeyError("x"), KeyboardInterrupt()):
                self.setUp()
                with self.assertRaises(type(error)) as caught:
                    with Trial(self.bench) as trial:
                        self.change()
                        changed = told(self.bench)
                        if held:
                            trial.hold()
                        raise error
                self.assertIs(caught.exception, error)
                self.assertEqual(told(self.bench), changed if held else self.before)

    def check_block(self, trial, name, held, error):
        """Behind a block that marks this name, left by this error or None, the bench is as held or not tells."""
        before = told(self.bench)
        caught = None
        try:
            with trial as entered:
                self.assertIs(entered, trial)
                self.bench.undo()
                self.bench.mark(name)
                self.bench.repair(STUCK)
                self.bench.undo()
                changed = told(self.bench)
                self.assertNotEqual(changed, before)
                if held:
                    trial.hold()
                if error is not None:
                    raise error
        except WriterError as left:
            caught = left
        self.assertIs(caught, error)
        self.assertEqual(told(self.bench), changed if held else before)

    def test_held_or_not_with_and_without_an_error(self):
        for held in (False, True):
            for error in (None, NoFit("x")):
                with self.subTest(held=held, error=error):
                    self.setUp()
                    self.check_block(Trial(self.bench), "y", held, error)

    def test_one_trial_entered_twice(self):
        for first_held, second_held in ((True, False), (False, True), (True, True), (False, False)):
            for first_error in (None, NoFit("x")):
                for second_error in (None, NoFit("y")):
                    with self.subTest(held=(first_held, second_held), errors=(first_error, second_error)):
                        self.setUp()
                        trial = Trial(self.bench)
                        self.check_block(trial, "y", first_held, first_error)
                        # The second block goes back to its own beginning, not to that of the first one.
                        self.bench.apply_all([("mark", "v"), ("repair", DEAD), ("wear", UP), ("undo",)])
                        self.check_block(trial, "z", second_held, second_error)

    def test_an_error_of_an_operation_leaves_it(self):
        with self.assertRaises(UnknownFaults):
            with Trial(self.bench):
                self.change()
                self.bench.repair(DOWN)
        self.assertEqual(told(self.bench), self.before)

    def test_left_by_return_and_break(self):
        def leave():
            with Trial(self.bench):
                self.change()
                return self.bench.marks
        self.assertEqual(leave(), ["x"])
        self.assertEqual(told(self.bench), self.before)
        for _ in range(3):
            with Trial(self.bench):
                self.change()
                break
        self.assertEqual(told(self.bench), self.before)

    def test_one_within_another(self):
        for outer_held in (False, True):
            for inner_held in (False, True):
                self.setUp()
                with Trial(self.bench) as outer:
                    self.bench.mark("o")
                    with Trial(self.bench) as inner:
                        self.bench.mark("i")
                        if inner_held:
                            inner.hold()
                    self.assertEqual(self.bench.marks, ["i", "o", "x"] if inner_held else ["o", "x"])
                    if outer_held:
                        outer.hold()
                if outer_held:
                    self.assertEqual(self.bench.marks, ["i", "o", "x"] if inner_held else ["o", "x"])
                else:
                    self.assertEqual(told(self.bench), self.before)

    def test_as_it_was_when_the_block_began(self):
        trial = Trial(self.bench)
        self.bench.mark("y")
        with trial:
            self.bench.mark("z")
        self.assertEqual(self.bench.marks, ["x", "y"])

    def test_hold_counts_in_its_block_only(self):
        trial = Trial(self.bench)
        with trial:
            self.bench.mark("y")
            trial.hold()
        self.assertEqual(self.bench.marks, ["x", "y"])
        with trial:
            self.bench.mark("z")
        self.assertEqual(self.bench.marks, ["x", "y"])
        trial.hold()
        self.assertEqual(self.bench.marks, ["x", "y"])

    def test_other_benches_are_not_concerned(self):
        other = Bench(CASE)
        with Trial(self.bench):
            other.mark("y")
            self.bench.mark("y")
        self.assertEqual((other.marks, self.bench.marks), (["y"], ["x"]))

    def test_apply_all_and_tried_within_a_block(self):
        with Trial(self.bench):
            self.bench.apply_all([("mark", "y"), ("repair", UP)])
            self.assertEqual(self.bench.tried([("mark", "z")], True), [False])
            self.assertEqual(self.bench.tried([("mark", "w")], False), [False])
            self.assertEqual(self.bench.marks, ["x", "y", "z"])
        self.assertEqual(told(self.bench), self.before)


class TriedTest(BenchTestCase):
    OPERATIONS = [("undo",), ("wear", UP), ("mark", "x"), ("undo",), ("redo",), ("go", "x")]

    def test_keep(self):
        for keep in (False, True):
            bench = bench_behind(("strike", [0], A), ("strike", [], {}), ("undo",))
            other = bench_behind(("strike", [0], A), ("strike", [], {}), ("undo",))
            before = told(bench)
            results = bench.tried(self.OPERATIONS, keep)
            self.assertEqual(results, other.apply_all(self.OPERATIONS))
            self.assertEqual(results, [True, 3, False, True, True, 3])
            self.assertEqual(told(bench), told(other) if keep else before)
            self.assertEqual(bench.redo(), not keep)
            results.clear()

    def test_twice_without_keep(self):
        bench = Bench(CASE)
        self.assertEqual(bench.tried([("mark", "x")], False), [False])
        self.assertEqual(bench.tried([("mark", "x")], False), [False])
        self.assertEqual(bench.tried([("mark", "x")], True), [False])
        self.assertEqual(bench.tried([("mark", "x")], True), [True])

    def test_no_operations(self):
        bench = bench_behind(("strike", [0], A), ("undo",))
        before = told(bench)
        for keep in (False, True):
            self.assertEqual(bench.tried([], keep), [])
            self.assertEqual(told(bench), before)

    def test_errors(self):
        bench = bench_behind(("strike", [0], A), ("undo",))
        for keep in (False, True):
            self.check_error(bench, NoFit, bench.tried, [("mark", "x"), NO_FIT], keep)
            error = self.check_error(bench, InvalidOperation, bench.tried, [("mark", "x"), NO_FIT, ("go",)], keep)
            self.assertEqual(error.index, 2)
            self.assertIsInstance(error, WriterError)
