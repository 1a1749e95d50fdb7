"""Points 1 and 22: what repairs cost."""

import copy
import unittest

from typefault.costs import best_repair, cheapest_repair
from typefault.errors import InvalidCosts, InvalidNumber, InvalidStrokes
from typefault.keyboards import Keyboard
from typefault.machines import Machine

KEYBOARD = Keyboard(("aA", "bB", "cC"))
BACK, DEAD, SLIP, OTHER_SLIP, SPACE, STUCK, UP = (
    ("back",), ("dead", 0), ("slip", 1), ("slip", 2), ("space",), ("stuck", 1), ("up",))
MACHINE = Machine(KEYBOARD, 5, (DEAD, STUCK, UP))
COSTS = {DEAD: 5, STUCK: 2, UP: 4}
# Here nothing is spoiled without the second slip, and nothing without the first one and the space bar's fault.
ONE_OR_TWO = Machine(KEYBOARD, 5, (SLIP, OTHER_SLIP, SPACE))
STROKES_OF_ONE_OR_TWO = [0, "back", "space", 1]
# Here the backspace key's fault and either slip spoil something.
EITHER = Machine(KEYBOARD, 5, (BACK, SLIP, OTHER_SLIP))
STROKES_OF_EITHER = ["space", "back", "back", 1]


class CheapestRepairTest(unittest.TestCase):
    def test_what_must_be_repaired(self):
        self.assertEqual(cheapest_repair(MACHINE, COSTS, [0]), (5, (DEAD,)))
        self.assertEqual(cheapest_repair(MACHINE, COSTS, [1, 1]), (2, (STUCK,)))
        self.assertEqual(cheapest_repair(MACHINE, COSTS, [0, 1, 2]), (7, (DEAD, STUCK)))
        self.assertEqual(cheapest_repair(MACHINE, COSTS, (0, 1, "up", 2)), (11, (DEAD, STUCK, UP)))

    def test_nothing_is_spoiled(self):
        for strokes in ([], [2], ["up", "space"], [2, 1]):
            self.assertEqual(cheapest_repair(MACHINE, COSTS, strokes), (0, ()))

    def test_no_faults(self):
        self.assertEqual(cheapest_repair(Machine(KEYBOARD, 5, ()), {}, [0, 1]), (0, ()))

    def test_two_that_cost_less_than_one(self):
        costs = {SLIP: 2, OTHER_SLIP: 5, SPACE: 2}
        self.assertEqual(cheapest_repair(ONE_OR_TWO, costs, STROKES_OF_ONE_OR_TWO), (4, (SLIP, SPACE)))
        costs = {SLIP: 2, OTHER_SLIP: 3, SPACE: 2}
        self.assertEqual(cheapest_repair(ONE_OR_TWO, costs, STROKES_OF_ONE_OR_TWO), (3, (OTHER_SLIP,)))

    def test_the_least_tuple_of_those_that_cost_the_same(self):
        # In tuple order, not the one with the fewest faults.
        costs = {SLIP: 2, OTHER_SLIP: 4, SPACE: 2}
        self.assertEqual(cheapest_repair(ONE_OR_TWO, costs, STROKES_OF_ONE_OR_TWO), (4, (SLIP, SPACE)))
        costs = {BACK: 1, SLIP: 3, OTHER_SLIP: 3}
        self.assertEqual(cheapest_repair(EITHER, costs, STROKES_OF_EITHER), (4, (BACK, SLIP)))
        costs = {OTHER_SLIP: 2, SLIP: 3, BACK: 1}
        self.assertEqual(cheapest_repair(EITHER, costs, STROKES_OF_EITHER), (3, (BACK, OTHER_SLIP)))

    def test_great_costs(self):
        costs = {DEAD: 10 ** 9, STUCK: 10 ** 9, UP: 1}
        self.assertEqual(cheapest_repair(MACHINE, costs, [0, 1, 2]), (2 * 10 ** 9, (DEAD, STUCK)))

    def test_many_faults(self):
        keyboard = Keyboard(("aA", "bB", "cC", "dD", "eE", "fF", "gG", "hH", "iI", "jJ"))
        faults = [("dead", key) for key in range(10)] + [("slip", column) for column in range(1, 19)]
        machine = Machine(keyboard, 20, faults + [BACK, SPACE, UP])
        costs = {fault: 1 for fault in machine.faults}
        self.assertEqual(cheapest_repair(machine, costs, [3, "return", 7]), (2, (("dead", 3), ("dead", 7))))


class BestRepairTest(unittest.TestCase):
    def test_budgets(self):
        # The cells of b and c are spoiled by the stuck key, that of a by the dead one.
        for budget, expected in ((0, (3, 0, ())), (1, (3, 0, ())), (2, (1, 2, (STUCK,))), (6, (1, 2, (STUCK,))),
                                 (7, (0, 7, (DEAD, STUCK))), (10 ** 12, (0, 7, (DEAD, STUCK)))):
            with self.subTest(budget=budget):
                self.assertEqual(best_repair(MACHINE, COSTS, [0, 1, 2], budget), expected)

    def test_no_faults(self):
        for budget in (0, 10 ** 12):
            self.assertEqual(best_repair(Machine(KEYBOARD, 5, ()), {}, [0, 1], budget), (0, 0, ()))

    def test_nothing_is_spoiled(self):
        for budget in (0, 3, 10 ** 12):
            self.assertEqual(best_repair(MACHINE, COSTS, [2, 1], budget), (0, 0, ()))

    def test_the_fewest_cells_go_ahead_of_the_least_cost(self):
        costs = {DEAD: 1, STUCK: 9, UP: 1}
        self.assertEqual(best_repair(MACHINE, costs, [0, 1, 2], 9), (1, 9, (STUCK,)))
        self.assertEqual(best_repair(MACHINE, costs, [0, 1, 2], 8), (2, 1, (DEAD,)))

    def test_the_least_cost_of_those_that_spoil_as_few(self):
        costs = {DEAD: 5, STUCK: 2, UP: 4}
        self.assertEqual(best_repair(MACHINE, costs, [0, "up", 2], 8), (1, 4, (UP,)))
        costs = {DEAD: 3, STUCK: 2, UP: 4}
        self.assertEqual(best_repair(MACHINE, costs, [0, "up", 2], 6), (1, 3, (DEAD,)))

    def test_the_least_tuple_of_those_that_cost_the_same(self):
        costs = {DEAD: 4, STUCK: 1, UP: 4}
        self.assertEqual(best_repair(MACHINE, costs, [0, "up", 2], 7), (1, 4, (DEAD,)))
        costs = {SLIP: 2, OTHER_SLIP: 4, SPACE: 2}
        self.assertEqual(best_repair(ONE_OR_TWO, costs, STROKES_OF_ONE_OR_TWO, 9), (0, 4, (SLIP, SPACE)))

    def test_great_costs_and_budgets(self):
        costs = {DEAD: 10 ** 9, STUCK: 10 ** 9, UP: 10 ** 9}
        strokes = [0, 1, "up", 2]
        self.assertEqual(best_repair(MACHINE, costs, strokes, 10 ** 12), (0, 3 * 10 ** 9, (DEAD, STUCK, UP)))
        self.assertEqual(best_repair(MACHINE, costs, strokes, 3 * 10 ** 9)[0], 0)
        self.assertGreater(best_repair(MACHINE, costs, strokes, 3 * 10 ** 9 - 1)[0], 0)


class ErrorsTest(unittest.TestCase):
    def check_costs(self, costs, fault, machine=MACHINE):
        calls = [(cheapest_repair, [strokes]) for strokes in ([0], [9], [0] * 61)]
        calls += [(best_repair, [strokes, budget]) for strokes in ([0], [9]) for budget in (0, -1, 10 ** 12 + 1)]
        for call, others in calls:
            with self.subTest(call=call.__name__, costs=costs, others=others):
                kept = dict(costs)
                with self.assertRaises(InvalidCosts) as caught:
                    call(machine, costs, *others)
                self.assertIs(type(caught.exception), InvalidCosts)
                self.assertEqual(caught.exception.fault, fault)
                self.assertEqual(costs, kept)

    def test_missing_costs(self):
        for fault in COSTS:
            self.check_costs({other: cost for other, cost in COSTS.items() if other != fault}, fault)
        self.check_costs({UP: 4}, DEAD)
        self.check_costs({}, DEAD)

    def test_superfluous_costs(self):
        for fault in (BACK, ("dead", 1), ("double", 0), ("feed", 0), ("stuck", 2), ("swap", 0, 2), ("down",)):
            self.check_costs({**COSTS, fault: 1}, fault)
        self.check_costs({BACK: 1}, BACK, Machine(KEYBOARD, 5, ()))

    def test_costs_out_of_range(self):
        for fault in COSTS:
            for cost in (0, -1, 10 ** 9 + 1, 10 ** 30, True):
                self.check_costs({**COSTS, fault: cost}, fault)
        for cost in (1, 10 ** 9):
            self.assertEqual(cheapest_repair(MACHINE, {**COSTS, DEAD: cost}, [0]), (cost, (DEAD,)))

    def test_the_least_of_several_wrong_ones(self):
        self.check_costs({UP: 0, STUCK: 0, DEAD: 0}, DEAD)
        self.check_costs({UP: 0, STUCK: 2, DEAD: 5, ("swap", 0, 1): 1}, ("swap", 0, 1))
        self.check_costs({STUCK: 0, DEAD: 5, ("swap", 0, 1): 1}, STUCK)
        self.check_costs({STUCK: 2, DEAD: 5, ("swap", 0, 1): 1, ("slip", 3): 1}, ("slip", 3))
        self.check_costs({STUCK: 2, UP: 10 ** 9 + 1, ("feed", 0): 1}, DEAD)
        self.check_costs({DEAD: 1, ("stuck", 2): 0, UP: 1, ("stuck", 0): 7}, ("stuck", 0))

    def test_invalid_strokes(self):
        for strokes, index in (([3], 0), ([0, -1, "x"], 1), ([0, True], 1), ([0] * 61, 60)):
            with self.assertRaises(InvalidStrokes) as caught:
                cheapest_repair(MACHINE, COSTS, strokes)
            self.assertEqual(caught.exception.index, index)
            for budget in (0, -1, 10 ** 12, 10 ** 12 + 1):
                with self.assertRaises(InvalidStrokes) as caught:
                    best_repair(MACHINE, COSTS, strokes, budget)
                self.assertEqual(caught.exception.index, index)

    def test_invalid_budgets(self):
        for machine, costs in ((MACHINE, COSTS), (Machine(KEYBOARD, 5, ()), {})):
            for budget in (-1, 10 ** 12 + 1, -10 ** 20, 10 ** 20):
                self.assertRaises(InvalidNumber, best_repair, machine, costs, [0], budget)

    def test_nothing_is_modified_and_calls_can_be_repeated(self):
        costs, strokes = dict(COSTS), [0, 1, 2]
        kept = copy.deepcopy((costs, strokes))
        for _ in range(2):
            self.assertEqual(cheapest_repair(MACHINE, costs, strokes), (7, (DEAD, STUCK)))
            self.assertEqual(best_repair(MACHINE, costs, strokes, 2), (1, 2, (STUCK,)))
        self.assertEqual((costs, strokes), kept)
