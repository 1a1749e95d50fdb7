"""Point 1, for all functions: what they may change, and strokes, evidence and tests that are wrong."""

import copy
import inspect
import unittest

from typefault import (apart, benches, cases, codec, costs, daybooks, far, notation, reveals, several, sheets, tables,
                       texts, trials, wears, working)
from typefault.cases import Case
from typefault.errors import InvalidEvidence, InvalidStrokes, InvalidTests
from typefault.keyboards import Keyboard
from typefault.machines import Machine

KEYBOARD = Keyboard(("aA", "bB", "cC"))
MACHINE = Machine(KEYBOARD, 5, [("dead", 0), ("slip", 2), ("up",)])
OTHER = Machine(KEYBOARD, 5, [("dead", 0), ("stuck", 1)])
CASE = Case(KEYBOARD, 5, (("dead", 0), ("slip", 2), ("up",), ("stuck", 1)), 2)
STROKES = [1, 0, "space", "up", 2]
SHEET = {(0, 0): "b", (0, 4): "C"}
EVIDENCE = [(STROKES, SHEET), ([2], {(0, 0): "c"})]
TESTS = [[0, 1], ["up", 1, 1], []]
WEARS = [(1, ("back",)), (2, ("stuck", 1))]
TEXTS = ["ab", "aB", "bb"]
COSTS = {("dead", 0): 3, ("slip", 2): 1, ("up",): 2}

# Each function with arguments that are right; "count", "line", "most" and the like are numbers in their ranges.
CALLS = [
    (sheets.state_after, [MACHINE, STROKES]),
    (sheets.typed, [MACHINE, STROKES]),
    (sheets.shown, [SHEET]),
    (sheets.spoiled, [MACHINE, STROKES]),
    (cases.fault_sets, [CASE]),
    (cases.machine_of, [CASE, (("dead", 0), ("up",))]),
    (cases.possible, [CASE, EVIDENCE]),
    (cases.first_wrong, [CASE, EVIDENCE]),
    (cases.judged, [CASE, EVIDENCE, ("up",)]),
    (cases.fewest, [CASE, EVIDENCE]),
    (apart.difference, [MACHINE, OTHER, 3]),
    (apart.groups, [CASE, TESTS]),
    (apart.told_apart, [CASE, TESTS]),
    (working.strokes_for, [MACHINE, "bc"]),
    (working.least_repairs, [MACHINE, STROKES]),
    (working.harmless, [MACHINE, STROKES]),
    (working.guilty, [MACHINE, STROKES]),
    (far.state_far, [MACHINE, STROKES, 3]),
    (far.line_far, [MACHINE, STROKES, 3, 0]),
    (trials.outcome_counts, [CASE, EVIDENCE, STROKES]),
    (trials.next_test, [CASE, EVIDENCE, TESTS]),
    (trials.fewest_tests, [CASE, EVIDENCE, TESTS]),
    (wears.typed_worn, [MACHINE, WEARS, STROKES]),
    (wears.possible_wears, [CASE, STROKES, SHEET]),
    (texts.strokes_of, [KEYBOARD, "aB"]),
    (texts.meant, [MACHINE, TEXTS, SHEET]),
    (texts.confused, [MACHINE, TEXTS]),
    (several.could_be, [[MACHINE, OTHER, MACHINE], EVIDENCE]),
    (several.assignment_count, [[MACHINE, OTHER, MACHINE], EVIDENCE]),
    (several.telling_strokes, [[MACHINE, OTHER], 3]),
    (costs.cheapest_repair, [MACHINE, COSTS, STROKES]),
    (costs.best_repair, [MACHINE, COSTS, STROKES, 4]),
    (tables.table, [CASE, TESTS]),
    (notation.format_case, [CASE, EVIDENCE]),
    (notation.parse_case, ["keys aA bB\nwidth 5\nmost 1\nfault dead 0\nstrokes 1 up\ncell 0 0 b\nstrokes"]),
    (codec.encode_case, [CASE]),
    (codec.decode_case, [[116, 2, 0, 1, 2, 3, 5, 1, 1, 8, 0, 1, 15]]),
]
# Each class with arguments that are right, and the names of its methods with theirs.
CLASSES = [
    (benches.Bench, [CASE], [
        ("strike", [[0], {(0, 0): "a"}]), ("repair", [("up",)]), ("wear", [("up",)]), ("mark", ["x"]), ("go", ["x"]),
        ("undo", []), ("redo", []), ("judge", [("up",)]), ("sets", []),
        ("apply_all", [[("strike", [1, 0], {(0, 0): "b", (0, 1): "a"}), ("undo",), ("redo",)]]),
        ("tried", [[("strike", [1, 0], {(0, 0): "b", (0, 1): "a"}), ("undo",)], True])]),
    (reveals.Reveal, [CASE, STROKES], [("best_cell", []), ("see", [(0, 0), "b"]), ("best_cell", [])]),
    (daybooks.Daybook, ["keys aA bB\nwidth 5\nstrike 0 up 1\nbreak dead 0\nshow\nstate\nfaults"], [
        ("machine", []), ("sheet", [])]),
]
# The number of a wrong stroke, and the strokes.
WRONG_STROKES = [(0, [3]), (2, [0, 1, -1, "x"]), (1, [0, True]), (0, ["left"]), (60, [0] * 61), (60, (0,) * 61 + (3,)),
                 (5, [0] * 5 + [10 ** 9] + [0] * 60), (60, [0] * 60 + ["x"])]


def told(value):
    """A value as plain data, objects as their properties, so that two can be compared and printed."""
    if isinstance(value, Machine):
        return ("machine", told(value.keyboard), value.width, value.faults)
    if isinstance(value, Case):
        return ("case", told(value.keyboard), value.width, value.pool, value.most)
    if isinstance(value, Keyboard):
        return ("keyboard", value.key_signs, value.signs)
    if isinstance(value, dict):
        return ("dict", list(value.items()))
    if isinstance(value, (list, tuple)):
        return (type(value).__name__, [told(item) for item in value])
    return value


def spoil(value):
    """Change all lists and dicts in a value."""
    if isinstance(value, (list, tuple)):
        for item in value:
            spoil(item)
    if isinstance(value, list):
        value.append("spoiled")
    if isinstance(value, dict):
        value[(9, 9)] = "spoiled"


class GeneralTest(unittest.TestCase):
    def test_all_functions_are_in_the_list(self):
        """A function of the interface is in it if it is named in the examples' modules, and not only a helper."""
        listed = {function for function, _ in CALLS}
        names = {"state_after", "typed", "shown", "spoiled", "fault_sets", "machine_of", "possible", "first_wrong",
                 "judged", "fewest", "difference", "groups", "told_apart", "strokes_for", "least_repairs", "harmless",
                 "guilty", "state_far", "line_far", "outcome_counts", "next_test", "fewest_tests", "typed_worn",
                 "possible_wears", "strokes_of", "meant", "confused", "could_be", "assignment_count", "telling_strokes",
                 "cheapest_repair", "best_repair", "table", "format_case", "parse_case", "encode_case", "decode_case"}
        self.assertEqual({function.__name__ for function in listed}, names)

    def test_arguments_have_their_names(self):
        names = {"case", "machine", "other", "most", "strokes", "sheet", "evidence", "tests", "fault", "faults", "text",
                 "texts", "keyboard", "count", "line", "wears", "machines", "costs", "budget", "values"}
        for function, arguments in CALLS:
            parameters = list(inspect.signature(function).parameters)
            self.assertEqual(len(parameters), len(arguments))
            self.assertEqual(set(parameters) - names, set(), function.__name__)
            # Each can be passed by its name, too.
            by_name = dict(zip(parameters, arguments))
            self.assertEqual(told(function(**by_name)), told(function(*arguments)))

    def test_functions_are_defined_where_the_interface_lists_them(self):
        for function, _ in CALLS:
            module = inspect.getmodule(function)
            self.assertIn(module, (apart, cases, codec, costs, far, notation, several, sheets, tables, texts, trials,
                                   wears, working))
            self.assertEqual(function.__module__, module.__name__)

    def test_arguments_are_not_modified(self):
        for function, arguments in CALLS:
            with self.subTest(function=function.__name__):
                given = copy.deepcopy(arguments)
                function(*given)
                self.assertEqual(told(given), told(arguments))

    def test_answers_may_be_modified_and_arguments_are_not_kept(self):
        for function, arguments in CALLS:
            with self.subTest(function=function.__name__):
                expected = told(function(*copy.deepcopy(arguments)))
                given = copy.deepcopy(arguments)
                answer = function(*given)
                self.assertEqual(told(answer), expected)
                spoil([answer])
                self.assertEqual(told(given), told(arguments))
                self.assertEqual(told(function(*given)), expected)
                answer = function(*given)
                spoil(given)
                self.assertEqual(told(answer), expected)
                self.assertEqual(told(function(*copy.deepcopy(arguments))), expected)


class ClassesTest(unittest.TestCase):
    PARAMETERS = {
        "Bench": ["case"], "strike": ["strokes", "sheet"], "repair": ["fault"], "wear": ["fault"], "mark": ["name"],
        "go": ["name"], "undo": [], "redo": [], "judge": ["fault"], "sets": [], "apply_all": ["operations"],
        "tried": ["operations", "keep"], "replay": ["case", "operations"], "Trial": ["bench"], "hold": [],
        "Reveal": ["case", "strokes"], "see": ["cell", "signs"], "best_cell": [],
        "Daybook": ["text"], "machine": [], "sheet": []}
    METHODS = {
        benches.Bench: ["strike", "repair", "wear", "mark", "go", "undo", "redo", "judge", "sets", "apply_all", "tried",
                        "replay"],
        benches.Trial: ["hold"], reveals.Reveal: ["see", "best_cell"], daybooks.Daybook: ["machine", "sheet"]}
    PROPERTIES = {benches.Bench: ["marks", "history"], reveals.Reveal: ["left", "seen_cells"],
                  daybooks.Daybook: ["results"], benches.Trial: []}

    def test_methods_and_arguments_have_their_names(self):
        for made, names in self.METHODS.items():
            self.assertEqual(list(inspect.signature(made).parameters), self.PARAMETERS[made.__name__])
            for name in names:
                self.assertIn(name, vars(made))
                parameters = list(inspect.signature(getattr(made, name)).parameters)
                self.assertEqual([parameter for parameter in parameters if parameter != "self"], self.PARAMETERS[name])
        self.assertIn("__enter__", vars(benches.Trial))
        self.assertIn("__exit__", vars(benches.Trial))

    def seen(self, thing):
        """The properties of an object as plain data."""
        return told([getattr(thing, name) for name in self.PROPERTIES[type(thing)]])

    def test_objects_keep_no_arguments_and_answers_may_be_modified(self):
        """Of two objects one is spared, and all that the other one is passed and returns is spoiled."""
        for made, arguments, calls in CLASSES:
            spared, given = made(*copy.deepcopy(arguments)), copy.deepcopy(arguments)
            other = made(*given)
            self.assertEqual(told(given), told(arguments))
            spoil(given)
            for name, more in calls:
                with self.subTest(made=made.__name__, name=name):
                    expected, given = told(getattr(spared, name)(*copy.deepcopy(more))), copy.deepcopy(more)
                    answer = getattr(other, name)(*given)
                    self.assertEqual(told(answer), expected)
                    self.assertEqual(told(given), told(more))
                    spoil([given, answer] + [getattr(other, place) for place in self.PROPERTIES[made]])
                    self.assertEqual(self.seen(other), self.seen(spared))


class WrongTest(unittest.TestCase):
    def check(self, function, arguments, error, index):
        with self.subTest(function=function.__name__, arguments=arguments[1:]):
            kept = copy.deepcopy(arguments)
            with self.assertRaises(error) as caught:
                function(*arguments)
            self.assertIs(type(caught.exception), error)
            self.assertEqual(caught.exception.index, index)
            self.assertIs(type(caught.exception.index), int)
            self.assertEqual(told(arguments), told(kept))

    def check_all(self, right, wrong, error):
        """Each function raises the error if it is passed what is wrong for what is right."""
        found = 0
        for function, arguments in CALLS:
            for at, argument in enumerate(arguments):
                if argument is right:
                    found += 1
                    for index, other in wrong:
                        self.check(function, arguments[:at] + [other] + arguments[at + 1:], error, index)
        return found

    def test_invalid_strokes(self):
        self.assertEqual(self.check_all(STROKES, WRONG_STROKES, InvalidStrokes), 13)

    def test_invalid_evidence(self):
        wrong = [(0, [(strokes, SHEET)]) for _, strokes in WRONG_STROKES]
        wrong += [(2, EVIDENCE + [(strokes, {}), ([9], {})]) for _, strokes in WRONG_STROKES]
        self.assertEqual(self.check_all(EVIDENCE, wrong, InvalidEvidence), 10)

    def test_invalid_tests(self):
        wrong = [(0, [strokes]) for _, strokes in WRONG_STROKES]
        wrong += [(3, TESTS + [strokes, [9]]) for _, strokes in WRONG_STROKES]
        self.assertEqual(self.check_all(TESTS, wrong, InvalidTests), 5)

    def test_sixty_strokes_are_right(self):
        strokes = ["return"] * 60
        for function, arguments in CALLS:
            for right, other in ((STROKES, strokes), (EVIDENCE, [(strokes, {})]), (TESTS, [strokes])):
                given = [other if argument is right else argument for argument in arguments]
                with self.subTest(function=function.__name__):
                    function(*given)
