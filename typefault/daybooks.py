"""Daybooks: what was done with a machine, and what was asked."""

from typefault.errors import DaybookError, InvalidKeyboard, InvalidMachine
from typefault.keyboards import Keyboard
from typefault.machines import Machine
from typefault.rows import fault_in, first_wrong_word, row_text, rows_of, strokes_in
from typefault.sheets import START, after_strokes, first_wrong_stroke, sheet_of, shown

# The first words of the rows that every daybook has, and those of the entries behind them.
HEAD = ("keys", "width")
ENTRIES = ("break", "faults", "mend", "show", "state", "strike")
MOST_ENTRIES = 100


def check_rows(rows):
    """Raise DaybookError for the first word that is wrong, superfluous or missing, then for a missing row."""
    for index, words in enumerate(rows):
        if index == len(HEAD) + MOST_ENTRIES:
            raise DaybookError(index, 0)
        wrong = first_wrong_word(words, HEAD[index:index + 1] if index < len(HEAD) else ENTRIES)
        if wrong is not None:
            raise DaybookError(index, wrong)
    if len(rows) < len(HEAD):
        raise DaybookError(len(rows), 0)


def machine_in(rows):
    """Return the machine without faults that the first rows tell."""
    try:
        keyboard = Keyboard(tuple(rows[0][1:]))
    except InvalidKeyboard:
        raise DaybookError(0, 0) from None
    try:
        return Machine(keyboard, int(rows[1][1]), ())
    except InvalidMachine:
        raise DaybookError(1, 0) from None


def state_text(state):
    """Return the line and the column of the carriage, and what the lock is."""
    line, column, locked = state
    return row_text([line, column, "up" if locked else "down"])


def faults_text(faults):
    """Return the words and numbers of faults, or what tells that there are none."""
    return ", ".join([row_text(fault) for fault in faults]) if faults else "-"


class Daybook:
    """A machine and a sheet behind entries, and the answers to the questions among them."""

    def __init__(self, text):
        rows = rows_of(text)
        check_rows(rows)
        self._machine = machine_in(rows)
        self._state = START
        self._prints = []
        answers = []
        for row in range(len(HEAD), len(rows)):
            words = rows[row]
            if words[0] in ("faults", "show", "state"):
                answers.append(self._answer(words[0]))
            elif words[0] == "strike":
                self._strike(row, strokes_in(words))
            else:
                self._change(row, words[0], fault_in(words))
        self.results = "\n".join(answers)

    def _answer(self, question):
        """Return the answer to a question."""
        if question == "show":
            return shown(self.sheet()).replace("\n", "/")
        if question == "state":
            return state_text(self._state)
        return faults_text(self._machine.faults)

    def _strike(self, row, strokes):
        """Go on by the strokes of a row."""
        if first_wrong_stroke(self._machine.keyboard, strokes) is not None:
            raise DaybookError(row, 0)
        self._state, prints = after_strokes(self._machine, self._state, strokes)
        self._prints.extend(prints)

    def _change(self, row, word, fault):
        """Let the fault of a row come or go."""
        if word == "mend":
            if fault not in self._machine.faults:
                raise DaybookError(row, 0)
            self._machine = self._machine.repaired([fault])
            return
        try:
            self._machine = self._machine.with_fault(fault)
        except InvalidMachine:
            raise DaybookError(row, 0) from None

    def machine(self):
        """Return the machine behind all entries."""
        return self._machine

    def sheet(self):
        """Return the sheet behind all entries."""
        return sheet_of(self._prints)
