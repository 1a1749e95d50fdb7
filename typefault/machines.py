"""Machines: a keyboard, a carriage and faults."""

from typefault.errors import InvalidMachine
from typefault.faults import first_wrong_fault, is_number

LEAST_WIDTH = 2
MOST_WIDTH = 20


class Machine:
    """A typewriter with a carriage of so many columns, and with faults that do not clash."""

    def __init__(self, keyboard, width, faults):
        if not is_number(width, LEAST_WIDTH, MOST_WIDTH):
            raise InvalidMachine("width", 0)
        wrong = first_wrong_fault(keyboard, width, faults)
        if wrong is not None:
            raise InvalidMachine("faults", wrong)
        self.keyboard = keyboard
        self.width = width
        self.faults = tuple(sorted(faults))

    def with_fault(self, fault):
        """Return this machine with one more fault."""
        return Machine(self.keyboard, self.width, self.faults + (fault,))

    def repaired(self, faults):
        """Return this machine without those of its faults that are among these."""
        left = [fault for fault in self.faults if fault not in faults]
        return Machine(self.keyboard, self.width, left)

    def __eq__(self, other):
        return (isinstance(other, Machine) and self.keyboard == other.keyboard
                and self.width == other.width and self.faults == other.faults)
