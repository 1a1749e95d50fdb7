"""Cases: which faults a machine can have, as far as evidence tells."""

from itertools import combinations

from typefault.errors import InvalidCase, InvalidEvidence, NoFit, UnknownFaults
from typefault.faults import fault_in_range, have_clash, is_number
from typefault.machines import LEAST_WIDTH, MOST_WIDTH, Machine
from typefault.sheets import first_wrong_stroke, sheet_after

MOST_IN_POOL = 10
MOST_AT_ONCE = 4


def first_wrong_of_pool(keyboard, width, pool):
    """Return the index of the first fault that a pool cannot have, or None."""
    for index, fault in enumerate(pool):
        if index == MOST_IN_POOL or not fault_in_range(keyboard, width, fault) or fault in pool[:index]:
            return index
    return None


class Case:
    """A machine that has some faults of a pool, but at most so many."""

    def __init__(self, keyboard, width, pool, most):
        if not is_number(width, LEAST_WIDTH, MOST_WIDTH):
            raise InvalidCase("width", 0)
        wrong = first_wrong_of_pool(keyboard, width, pool)
        if wrong is not None:
            raise InvalidCase("pool", wrong)
        if not is_number(most, 0, MOST_AT_ONCE):
            raise InvalidCase("most", 0)
        self.keyboard = keyboard
        self.width = width
        self.pool = tuple(pool)
        self.most = most


def fault_sets(case):
    """Return the list of all sets of faults that there can be, smaller ones first, then in tuple order."""
    pool = sorted(case.pool)
    sets = []
    for size in range(case.most + 1):
        for faults in combinations(pool, size):
            if not have_clash(faults):
                sets.append(faults)
    return sets


def machine_of(case, faults):
    """Return the machine with a set of faults that there can be."""
    if faults not in fault_sets(case):
        raise UnknownFaults(f"no set of the case is {faults!r}")
    return Machine(case.keyboard, case.width, faults)


def check_evidence(keyboard, evidence):
    """Raise InvalidEvidence if the strokes of a tuple are invalid."""
    for index, (strokes, _) in enumerate(evidence):
        if first_wrong_stroke(keyboard, strokes) is not None:
            raise InvalidEvidence(index)


def those_that_fit(case, sets, strokes, sheet):
    """Return the list of those of the sets of faults by which a sheet comes out of strokes."""
    found = []
    for faults in sets:
        if sheet_after(Machine(case.keyboard, case.width, faults), strokes) == sheet:
            found.append(faults)
    return found


def possible(case, evidence):
    """Return the list of all sets of faults by which all evidence comes out so."""
    check_evidence(case.keyboard, evidence)
    sets = fault_sets(case)
    for strokes, sheet in evidence:
        sets = those_that_fit(case, sets, strokes, sheet)
    return sets


def first_wrong(case, evidence):
    """Return the index of the first tuple of the evidence behind which no set is left, or None."""
    check_evidence(case.keyboard, evidence)
    sets = fault_sets(case)
    for index, (strokes, sheet) in enumerate(evidence):
        sets = those_that_fit(case, sets, strokes, sheet)
        if not sets:
            return index
    return None


def how_often(fault, sets):
    """Return "surely", "perhaps" or "never", as a fault is in all, some or none of several sets."""
    having = [faults for faults in sets if fault in faults]
    if len(having) == len(sets):
        return "surely"
    return "perhaps" if having else "never"


def check_in_pool(case, fault):
    """Raise UnknownFaults if a fault is not in the pool."""
    if fault not in case.pool:
        raise UnknownFaults(f"the pool has no {fault!r}")


def judged(case, evidence, fault):
    """Return "surely", "perhaps" or "never", as a fault is in all, some or no possible sets."""
    sets = possible(case, evidence)
    check_in_pool(case, fault)
    if not sets:
        raise NoFit("no set of faults is possible")
    return how_often(fault, sets)


def fewest(case, evidence):
    """Return the fewest faults of a possible set, and the list of all possible sets with so many."""
    sets = possible(case, evidence)
    if not sets:
        raise NoFit("no set of faults is possible")
    number = len(sets[0])
    return number, [faults for faults in sets if len(faults) == number]
