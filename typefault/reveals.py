"""A covered sheet that is revealed cell by cell."""

from typefault.cases import fault_sets
from typefault.errors import InvalidCell, NoFit
from typefault.faults import is_number
from typefault.machines import Machine
from typefault.sheets import check_strokes, sheet_after

LAST_LINE_SEEN = 10 ** 9


def most_alike(texts):
    """Return how often the most frequent one of several texts is there."""
    counts = {}
    for text in texts:
        counts[text] = counts.get(text, 0) + 1
    return max(counts.values())


class Reveal:
    """A covered sheet that came out of strokes, and the sets of faults that are left."""

    def __init__(self, case, strokes):
        check_strokes(case.keyboard, strokes)
        self._width = case.width
        self._seen = []
        self._outcomes = []
        for faults in fault_sets(case):
            sheet = sheet_after(Machine(case.keyboard, case.width, faults), strokes)
            self._outcomes.append((faults, sheet))

    @property
    def left(self):
        """The tuple of the sets of faults that are left, smaller ones first, then in tuple order."""
        return tuple([faults for faults, _ in self._outcomes])

    @property
    def seen_cells(self):
        """The list of all cells that were seen, in order."""
        return list(self._seen)

    def see(self, cell, signs):
        """Tell which signs are in a cell, and return how many sets of faults are left then."""
        line, column = cell
        if not is_number(line, 0, LAST_LINE_SEEN) or not is_number(column, 0, self._width - 1):
            raise InvalidCell(f"the sheet has no {cell!r}")
        left = [(faults, sheet) for faults, sheet in self._outcomes if sheet.get(cell, "") == signs]
        if not left:
            raise NoFit("no set of faults would be left")
        self._outcomes = left
        self._seen.append(cell)
        return len(left)

    def best_cell(self):
        """Return the first cell behind whose sight the fewest sets are left in the worst case, or None."""
        best = None
        fewest = len(self._outcomes)
        for cell in sorted(set([place for _, sheet in self._outcomes for place in sheet])):
            many = most_alike([sheet.get(cell, "") for _, sheet in self._outcomes])
            if many < fewest:
                best = cell
                fewest = many
        return best
