"""A bench: operations on one machine, which can be undone, done again and tried."""

from typefault.cases import check_in_pool, fault_sets, how_often, those_that_fit
from typefault.errors import InvalidName, InvalidOperation, NoFit, UnknownMark
from typefault.faults import clashes
from typefault.sheets import check_strokes

LETTERS = "abcdefghijklmnopqrstuvwxyz"
LONGEST_NAME = 8
# The methods that `apply_all` executes, and how many arguments each one has.
ARGUMENTS = {"go": 1, "mark": 1, "redo": 0, "repair": 1, "strike": 2, "undo": 0, "wear": 1}


def in_order(sets):
    """Return different sets of faults, smaller ones first, then in tuple order."""
    return sorted(sorted(set(sets)), key=len)


def without_fault(sets, fault):
    """Return what these sets of faults are when a fault was repaired."""
    return in_order([tuple([other for other in faults if other != fault]) for faults in sets])


def with_fault_too(sets, fault, most):
    """Return what those of these sets of faults are that can have one more fault when it has come."""
    free = [faults for faults in sets if len(faults) < most and not clashes(fault, faults)]
    return in_order([tuple(sorted(faults + (fault,))) for faults in free])


def check_name(name):
    """Raise InvalidName if this is not one to eight letters a to z."""
    if not 1 <= len(name) <= LONGEST_NAME or not all([sign in LETTERS for sign in name]):
        raise InvalidName(f"not one to {LONGEST_NAME} letters: {name!r}")


def is_operation(operation):
    """Tell whether this is a tuple of the name of a method and the right number of arguments."""
    if not isinstance(operation, tuple) or not operation or not isinstance(operation[0], str):
        return False
    return operation[0] in ARGUMENTS and len(operation) == ARGUMENTS[operation[0]] + 1


def check_operations(operations):
    """Raise InvalidOperation if one of the operations is malformed."""
    for index, operation in enumerate(operations):
        if not is_operation(operation):
            raise InvalidOperation(index)


def copied_strike(strokes, sheet):
    """Return the operation of a strike, with strokes and a sheet of its own."""
    return ("strike", strokes[:], {cell: sheet[cell] for cell in sheet})


def copied(operation):
    """Return an operation that shares no list and no dict with this one."""
    if operation[0] == "strike":
        return copied_strike(operation[1], operation[2])
    return operation


class Bench:
    """The sets of faults that are possible for a machine on a bench, and what was done with it."""

    def __init__(self, case):
        self._case = case
        # A step is a tuple (operation, sets, marks): what is possible, and what is marked, behind an operation.
        # Steps are never changed, so a trial needs to keep no more than these two tuples.
        self._steps = ((None, fault_sets(case), ()),)
        self._undone = ()

    @property
    def marks(self):
        """The ascending list of the names of all marks."""
        return sorted(set([name for name, _ in self._steps[-1][2]]))

    @property
    def history(self):
        """The list of all operations in effect, in order."""
        return [copied(step[0]) for step in self._steps[1:]]

    def _done(self, operation, sets, marks):
        """Make an operation the last one in effect, and return how many sets are possible then."""
        self._steps = self._steps + ((operation, sets, marks),)
        self._undone = ()
        return len(sets)

    def strike(self, strokes, sheet):
        """Tell what came out of strokes, and return how many sets are possible then."""
        check_strokes(self._case.keyboard, strokes)
        _, sets, marks = self._steps[-1]
        fitting = those_that_fit(self._case, sets, strokes, sheet)
        if not fitting:
            raise NoFit("no set of faults would be possible")
        return self._done(copied_strike(strokes, sheet), fitting, marks)

    def repair(self, fault):
        """Tell that a fault was repaired, if it was there, and return how many sets are possible then."""
        check_in_pool(self._case, fault)
        _, sets, marks = self._steps[-1]
        return self._done(("repair", fault), without_fault(sets, fault), marks)

    def wear(self, fault):
        """Tell that a fault has come that was not there, and return how many sets are possible then."""
        check_in_pool(self._case, fault)
        _, sets, marks = self._steps[-1]
        having = with_fault_too(sets, fault, self._case.most)
        if not having:
            raise NoFit("no set of faults would be possible")
        return self._done(("wear", fault), having, marks)

    def mark(self, name):
        """Mark what is possible with a name, and return whether there was a mark with this name."""
        check_name(name)
        _, sets, marks = self._steps[-1]
        was_there = name in [other for other, _ in marks]
        self._done(("mark", name), sets, marks + ((name, sets),))
        return was_there

    def go(self, name):
        """Return to what was marked with a name last, and return how many sets are possible then."""
        marks = self._steps[-1][2]
        marked = [sets for other, sets in marks if other == name]
        if not marked:
            raise UnknownMark(f"no mark is called {name!r}")
        return self._done(("go", name), marked[-1], marks)

    def undo(self):
        """Undo the last operation in effect, and return whether there was one."""
        if len(self._steps) == 1:
            return False
        self._undone = self._undone + self._steps[-1:]
        self._steps = self._steps[:-1]
        return True

    def redo(self):
        """Execute the operation that was undone last once more, and return whether there was one."""
        if not self._undone:
            return False
        self._steps = self._steps + self._undone[-1:]
        self._undone = self._undone[:-1]
        return True

    def sets(self):
        """Return the list of the possible sets, smaller ones first, then in tuple order."""
        return list(self._steps[-1][1])

    def judge(self, fault):
        """Return "surely", "perhaps" or "never", as a fault is in all, some or none of the possible sets."""
        check_in_pool(self._case, fault)
        return how_often(fault, self._steps[-1][1])

    def _executed(self, operation):
        """Execute an operation that is well formed, and return its result."""
        methods = {"go": self.go, "mark": self.mark, "redo": self.redo, "repair": self.repair,
                   "strike": self.strike, "undo": self.undo, "wear": self.wear}
        method = methods[operation[0]]
        arguments = operation[1:]
        return method(*arguments)

    def apply_all(self, operations):
        """Execute all operations, or none if one raises an error, and return the list of their results."""
        check_operations(operations)
        results = []
        with Trial(self) as trial:
            for operation in operations:
                results.append(self._executed(operation))
            trial.hold()
        return results

    def tried(self, operations, keep):
        """Execute operations, keep what they change only if told so, and return the list of their results."""
        with Trial(self) as trial:
            results = self.apply_all(operations)
            if keep:
                trial.hold()
        return results

    @classmethod
    def replay(cls, case, operations):
        """Return a bench behind a list of operations."""
        bench = cls(case)
        bench.apply_all(operations)
        return bench


class Trial:
    """A block behind which a bench is as it was ahead of it, unless the trial is held."""

    def __init__(self, bench):
        self._bench = bench
        self._steps = ()
        self._undone = ()
        # None until the trial is held, as `__exit__` may ask no more of it than whether it is None.
        self._held = None

    def __enter__(self):
        self._steps = self._bench._steps
        self._undone = self._bench._undone
        # The trial may have been held in an earlier block, which says nothing about this one.
        self._held = None
        return self

    def __exit__(self, kind, value, trace):
        bench = self._bench
        if self._held is None:
            bench._steps = self._steps
            bench._undone = self._undone
        return False

    def hold(self):
        """Let the bench keep what is changed in this block."""
        self._held = True
