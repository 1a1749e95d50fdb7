"""Working in spite of faults: how to type a text, and what to repair."""

from itertools import combinations

from typefault.errors import InvalidText
from typefault.machines import Machine
from typefault.sheets import START, after_stroke, all_strokes, check_strokes, spoiled

LONGEST_TEXT = 5


def check_text(keyboard, text):
    """Raise InvalidText if a sign is neither on the keyboard nor a blank, or is one too many."""
    for index, sign in enumerate(text):
        if index == LONGEST_TEXT or (sign != " " and sign not in keyboard.signs):
            raise InvalidText(index)


def step_with(machine, wanted, step, stroke):
    """Return the step, a tuple (state, cells that are printed), behind one more stroke, or None if it spoils."""
    state, done = step
    state, printed = after_stroke(machine, state, stroke)
    # The carriage never comes back to line 0.
    if state[0] > 0:
        return None
    for cell, sign in printed:
        if wanted.get(cell, "") != sign:
            return None
        if cell not in done:
            done = tuple(sorted(done + (cell,)))
    return state, done


def way_to_print(machine, wanted):
    """Return the shortest list of strokes that print what is wanted in each cell of line 0, or None."""
    first = (START, ())
    ways = {first: []}
    steps = [first]
    while steps:
        following = []
        for step in steps:
            if len(step[1]) == len(wanted):
                return ways[step]
            for stroke in all_strokes(machine.keyboard):
                behind = step_with(machine, wanted, step, stroke)
                if behind is not None and behind not in ways:
                    ways[behind] = ways[step] + [stroke]
                    following.append(behind)
        steps = following
    return None


def strokes_for(machine, text):
    """Return the shortest list of strokes by which a text comes out on line 0, or None."""
    check_text(machine.keyboard, text)
    return way_to_print(machine, {(0, column): sign for column, sign in enumerate(text) if sign != " "})


def least_repairs(machine, strokes):
    """Return the fewest faults to be repaired so that nothing is spoiled, and the least tuple of so many."""
    check_strokes(machine.keyboard, strokes)
    faults = list(machine.faults)
    for number in range(len(faults)):
        for repaired in combinations(faults, number):
            if not spoiled(machine.repaired(repaired), strokes):
                return number, repaired
    return len(faults), machine.faults


def harmless(machine, strokes):
    """Return the ascending list of those faults of which each one alone spoils nothing."""
    check_strokes(machine.keyboard, strokes)
    alone = [(fault, Machine(machine.keyboard, machine.width, (fault,))) for fault in machine.faults]
    return [fault for fault, other in alone if not spoiled(other, strokes)]


def guilty(machine, strokes):
    """Return the ascending list of those faults without which fewer cells are spoiled."""
    many = len(spoiled(machine, strokes))
    return [fault for fault in machine.faults if len(spoiled(machine.repaired([fault]), strokes)) < many]
