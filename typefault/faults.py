"""Faults: the ranges of their numbers, and which of them clash."""

from typefault.errors import InvalidNumber

# The words of all faults, ascending, and how many numbers each one has.
NUMBERS_OF_FAULTS = {"back": 0, "dead": 1, "double": 1, "down": 0, "feed": 1, "slip": 1, "space": 0, "stuck": 1,
                     "swap": 2, "up": 0}


def is_number(value, low, high):
    """Tell whether a value is an integer from low to high, which a boolean is not."""
    return isinstance(value, int) and not isinstance(value, bool) and low <= value <= high


def check_number(number, most):
    """Raise InvalidNumber if a number is not from 0 to the most that it can be."""
    if not is_number(number, 0, most):
        raise InvalidNumber(f"not from 0 to {most}: {number!r}")


def fault_in_range(keyboard, width, fault):
    """Tell whether a fault has no number out of its range."""
    word = fault[0]
    last_key = len(keyboard) - 1
    if word in ("dead", "double", "stuck"):
        return is_number(fault[1], 0, last_key)
    if word == "swap":
        return is_number(fault[2], 0, last_key) and is_number(fault[1], 0, fault[2] - 1)
    if word == "slip":
        return is_number(fault[1], 1, width - 2)
    if word == "feed":
        return is_number(fault[1], 0, 2) and fault[1] != 1
    return True


def claims(fault):
    """Return what a fault claims for itself alone, so that no fault beside it can claim it."""
    word = fault[0]
    if word in ("dead", "double", "stuck", "swap"):
        return [("key", key) for key in fault[1:]]
    if word in ("down", "up"):
        return [("lock",)]
    if word == "feed":
        return [("feed",)]
    return [fault]


def clashes(fault, others):
    """Tell whether a fault clashes with one of several others."""
    claimed = [claim for other in others for claim in claims(other)]
    return any([claim in claimed for claim in claims(fault)])


def have_clash(faults):
    """Tell whether two of several faults clash."""
    claimed = [claim for fault in faults for claim in claims(fault)]
    return len(set(claimed)) < len(claimed)


def first_wrong_fault(keyboard, width, faults):
    """Return the index of the first fault that is out of range or clashes with an earlier one, or None."""
    claimed = {}
    for index, fault in enumerate(faults):
        if not fault_in_range(keyboard, width, fault):
            return index
        for claim in claims(fault):
            if claim in claimed:
                return index
            claimed[claim] = True
    return None
