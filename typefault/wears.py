"""Machines that wear: faults that come while strokes are done."""

from typefault.errors import InvalidWears
from typefault.faults import clashes, fault_in_range, is_number
from typefault.machines import Machine
from typefault.sheets import MOST_STROKES, START, after_stroke, check_strokes, sheet_of


def first_wrong_wear(machine, wears):
    """Return the index of the first wear that the machine cannot have, or None."""
    faults = list(machine.faults)
    for index, (count, fault) in enumerate(wears):
        if not is_number(count, 0, MOST_STROKES) or not fault_in_range(machine.keyboard, machine.width, fault):
            return index
        if clashes(fault, faults):
            return index
        faults.append(fault)
    return None


def sheet_worn(machine, wears, strokes):
    """Return the sheet that comes out of strokes while wears come, all known to be right."""
    state = START
    prints = []
    for done, stroke in enumerate(strokes):
        for count, fault in wears:
            if count == done:
                machine = machine.with_fault(fault)
        state, printed = after_stroke(machine, state, stroke)
        prints.extend(printed)
    return sheet_of(prints)


def typed_worn(machine, wears, strokes):
    """Return the sheet that comes out of strokes if wears come to the faults of a machine."""
    wrong = first_wrong_wear(machine, wears)
    if wrong is not None:
        raise InvalidWears(wrong)
    check_strokes(machine.keyboard, strokes)
    return sheet_worn(machine, wears, strokes)


def possible_wears(case, strokes, sheet):
    """Return the ascending list of all wears of a faultless machine by which a sheet comes out of strokes."""
    check_strokes(case.keyboard, strokes)
    faultless = Machine(case.keyboard, case.width, ())
    faults = sorted(case.pool)
    wears = [(count, fault) for count in range(len(strokes)) for fault in faults]
    return [wear for wear in wears if sheet_worn(faultless, [wear], strokes) == sheet]
