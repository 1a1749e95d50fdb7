"""What repairs cost."""

from heapq import heappop, heappush

from typefault.errors import InvalidCosts
from typefault.faults import check_number, is_number
from typefault.sheets import check_strokes, spoiled

MOST_COST = 10 ** 9
MOST_BUDGET = 10 ** 12


def check_costs(machine, costs):
    """Raise InvalidCosts if a fault of the machine has no cost, if one is superfluous, or if a cost is wrong."""
    for fault in sorted(set(list(machine.faults) + list(costs))):
        if fault not in machine.faults or fault not in costs or not is_number(costs[fault], 1, MOST_COST):
            raise InvalidCosts(fault)


def best_within(machine, costs, strokes, budget):
    """Return the least tuple (cells that are spoiled, cost, repaired faults) of a cost up to the budget."""
    best = None
    # Each tuple of faults is made from the one without its last fault, which costs less, so they come in order.
    queue = [(0, ())]
    while queue and (best is None or best[0] > 0):
        cost, repaired = heappop(queue)
        many = len(spoiled(machine.repaired(repaired), strokes))
        if best is None or many < best[0]:
            best = (many, cost, repaired)
        for fault in machine.faults:
            if repaired[-1:] < (fault,) and cost + costs[fault] <= budget:
                heappush(queue, (cost + costs[fault], repaired + (fault,)))
    return best


def cheapest_repair(machine, costs, strokes):
    """Return the least cost of repairs by which nothing is spoiled, and the least tuple of faults with it."""
    check_costs(machine, costs)
    check_strokes(machine.keyboard, strokes)
    _, cost, repaired = best_within(machine, costs, strokes, sum(costs.values()))
    return cost, repaired


def best_repair(machine, costs, strokes, budget):
    """Return the fewest cells that are spoiled within a budget, the least cost, and the least tuple of faults."""
    check_costs(machine, costs)
    check_strokes(machine.keyboard, strokes)
    check_number(budget, MOST_BUDGET)
    return best_within(machine, costs, strokes, budget)
