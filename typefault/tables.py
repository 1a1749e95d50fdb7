"""Tables: which faults spoil something by which tests."""

from typefault.apart import check_tests
from typefault.machines import Machine
from typefault.rows import row_text
from typefault.sheets import spoiled


def line_of(case, fault, tests):
    """Return the line of a fault."""
    machine = Machine(case.keyboard, case.width, (fault,))
    told = ["x" if spoiled(machine, strokes) else "-" for strokes in tests]
    return row_text([row_text(fault) + ":"] + told)


def table(case, tests):
    """Return a text with a line for each fault of the pool, and in it a sign for each test."""
    check_tests(case.keyboard, tests)
    return "\n".join([line_of(case, fault, tests) for fault in case.pool])
