"""Which tests to make next, and how many."""

from typefault.apart import check_tests, outcome, parted
from typefault.cases import possible
from typefault.errors import InvalidTests, NoFit
from typefault.sheets import check_strokes

MOST_TESTS = 5


def outcome_counts(case, evidence, strokes):
    """Return by how many possible sets of faults each sheet comes out that can come out of strokes."""
    sets = possible(case, evidence)
    check_strokes(case.keyboard, strokes)
    return [len(group) for group in parted(case, sets, [strokes])]


def worst_left(case, sets, test):
    """Return how many of these sets are possible behind a test in the worst case."""
    return max([len(group) for group in parted(case, sets, [test])])


def next_test(case, evidence, tests):
    """Return the index of the test behind which the fewest sets are possible in the worst case, or None."""
    sets = possible(case, evidence)
    check_tests(case.keyboard, tests)
    if not sets:
        raise NoFit("no set of faults is possible")
    left = [worst_left(case, sets, test) for test in tests]
    return left.index(min(left)) if left else None


def parts_by(outcomes, test):
    """Return these outcomes parted by what comes out of a test."""
    parts = {}
    for told in outcomes:
        parts.setdefault(told[test], []).append(told)
    return list(parts.values())


def tests_to_tell(outcomes, tests):
    """Return how many of these tests are needed in the worst case until none can tell two outcomes apart."""
    needed = []
    for test in tests:
        parts = parts_by(outcomes, test)
        if len(parts) > 1:
            others = [other for other in tests if other != test]
            needed.append(1 + max([tests_to_tell(part, others) for part in parts]))
    return min(needed, default=0)


def fewest_tests(case, evidence, tests):
    """Return how many tests have to be made in the worst case until none can tell possible sets apart."""
    sets = possible(case, evidence)
    check_tests(case.keyboard, tests)
    if len(tests) > MOST_TESTS:
        raise InvalidTests(MOST_TESTS)
    if not sets:
        raise NoFit("no set of faults is possible")
    outcomes = [outcome(case, faults, tests) for faults in sets]
    return tests_to_tell(outcomes, list(range(len(tests))))
