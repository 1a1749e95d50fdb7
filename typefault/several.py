"""Several machines of one keyboard and width, compared."""

from typefault.apart import telling_list
from typefault.cases import check_evidence
from typefault.errors import InvalidMachines
from typefault.faults import check_number
from typefault.sheets import sheet_after

FEWEST_MACHINES = 2
MOST_MACHINES = 6
MOST_TO_TELL_ALL = 3


def check_machines(machines):
    """Raise InvalidMachines if there are too few or too many machines, or if one is unlike the first one."""
    if len(machines) < FEWEST_MACHINES:
        raise InvalidMachines(len(machines))
    first = machines[0]
    for index, machine in enumerate(machines):
        if index == MOST_MACHINES or machine.keyboard != first.keyboard or machine.width != first.width:
            raise InvalidMachines(index)


def those_printing(machines, strokes, sheet):
    """Return the ascending list of the indexes of the machines by which a sheet comes out of strokes."""
    return [index for index, machine in enumerate(machines) if sheet_after(machine, strokes) == sheet]


def checked_rows(machines, evidence):
    """Return for each tuple of the evidence the list of the indexes of the machines by which it comes out."""
    check_machines(machines)
    check_evidence(machines[0].keyboard, evidence)
    return [those_printing(machines, strokes, sheet) for strokes, sheet in evidence]


def could_be(machines, evidence):
    """Return the ascending list of the indexes of all machines by which all evidence comes out."""
    rows = checked_rows(machines, evidence)
    return [index for index in range(len(machines)) if all([index in row for row in rows])]


def ways_to_choose(rows, taken):
    """Return in how many ways an index of its own, none that is taken, can be chosen from each row."""
    if not rows:
        return 1
    return sum([ways_to_choose(rows[1:], taken + [index]) for index in rows[0] if index not in taken])


def assignment_count(machines, evidence):
    """Return in how many ways each sheet can come from another machine than all others."""
    return ways_to_choose(checked_rows(machines, evidence), [])


def telling_strokes(machines, most):
    """Return the shortest list of at most so many strokes behind which no two sheets are equal, or None."""
    check_machines(machines)
    check_number(most, MOST_TO_TELL_ALL)
    return telling_list(machines, most)
