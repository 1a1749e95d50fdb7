"""Which strokes tell machines, or sets of faults, apart."""

from typefault.cases import fault_sets
from typefault.errors import InvalidTests, UnlikeMachines
from typefault.faults import check_number
from typefault.machines import Machine
from typefault.sheets import START, after_stroke, all_strokes, first_wrong_stroke, sheet_after, sheet_of

MOST_TO_TELL = 4


def run_with(machine, run, stroke):
    """Return the run of a machine, a tuple (state, prints), behind one more stroke."""
    state, prints = run
    state, printed = after_stroke(machine, state, stroke)
    return state, prints + printed


def runs_with(machines, runs, stroke):
    """Return the runs of several machines behind one more stroke."""
    return [run_with(machine, run, stroke) for machine, run in zip(machines, runs)]


def sheet_key(sheet):
    """Return a sheet as a tuple, which can be the key of a dict."""
    return tuple(sheet.items())


def telling_list(machines, most):
    """Return the shortest list of at most so many strokes behind which no two sheets are equal, or None."""
    ways = [([], [(START, []) for _ in machines])]
    seen = {}
    for _ in range(most):
        longer = []
        for strokes, runs in ways:
            for stroke in all_strokes(machines[0].keyboard):
                now = runs_with(machines, runs, stroke)
                sheets = [sheet_key(sheet_of(prints)) for _, prints in now]
                if len(set(sheets)) == len(sheets):
                    return strokes + [stroke]
                # What can follow depends on this alone, and the strokes that led here first are the least ones.
                key = (tuple([state for state, _ in now]), tuple(sheets))
                if key not in seen:
                    seen[key] = True
                    longer.append((strokes + [stroke], now))
        ways = longer
    return None


def difference(machine, other, most):
    """Return the shortest list of at most so many strokes by which two machines differ, or None."""
    if machine.keyboard != other.keyboard or machine.width != other.width:
        raise UnlikeMachines("the keyboards or the widths are not equal")
    check_number(most, MOST_TO_TELL)
    return telling_list([machine, other], most)


def check_tests(keyboard, tests):
    """Raise InvalidTests if the strokes of a test are invalid."""
    for index, strokes in enumerate(tests):
        if first_wrong_stroke(keyboard, strokes) is not None:
            raise InvalidTests(index)


def outcome(case, faults, tests):
    """Return the sheets that come out of tests by a set of faults, as a tuple that can be a key."""
    machine = Machine(case.keyboard, case.width, faults)
    return tuple([sheet_key(sheet_after(machine, strokes)) for strokes in tests])


def parted(case, sets, tests):
    """Return the list of the groups of these sets of faults by which the same comes out for each test."""
    groups_by_outcome = {}
    for faults in sets:
        groups_by_outcome.setdefault(outcome(case, faults, tests), []).append(faults)
    return list(groups_by_outcome.values())


def groups(case, tests):
    """Return the list of all groups of sets of faults by which the same comes out for each test."""
    check_tests(case.keyboard, tests)
    return parted(case, fault_sets(case), tests)


def told_apart(case, tests):
    """Return the list of all sets of faults that are alone in their group."""
    return [group[0] for group in groups(case, tests) if len(group) == 1]
