"""The errors of the package."""


class WriterError(ValueError):
    """The base class of all errors of the package."""


class InvalidKeyboard(WriterError):
    """A keyboard cannot have these keys."""

    def __init__(self, index):
        super().__init__(f"index {index}")
        self.index = index


class UnknownSign(WriterError):
    """A sign is not on the keyboard."""


class InvalidStrokes(WriterError):
    """A stroke is none, or is one too many."""

    def __init__(self, index):
        super().__init__(f"index {index}")
        self.index = index


class InvalidMachine(WriterError):
    """A machine cannot have this width, or these faults."""

    def __init__(self, part, index):
        super().__init__(f"{part}, index {index}")
        self.part = part
        self.index = index


class InvalidCase(WriterError):
    """A case cannot have this width, this pool, or so many faults."""

    def __init__(self, part, index):
        super().__init__(f"{part}, index {index}")
        self.part = part
        self.index = index


class UnknownFaults(WriterError):
    """A fault is not in the pool, or a set of faults is not one that there can be."""


class InvalidEvidence(WriterError):
    """The strokes of a tuple of the evidence are invalid."""

    def __init__(self, index):
        super().__init__(f"index {index}")
        self.index = index


class NoFit(WriterError):
    """No set of faults is possible."""


class UnlikeMachines(WriterError):
    """Two machines have different keyboards or widths."""


class InvalidNumber(WriterError):
    """A number is out of its range."""


class InvalidTests(WriterError):
    """The strokes of a test are invalid, or there are too many tests."""

    def __init__(self, index):
        super().__init__(f"index {index}")
        self.index = index


class InvalidText(WriterError):
    """A text has a sign that it cannot have, or is too long."""

    def __init__(self, index):
        super().__init__(f"index {index}")
        self.index = index


class InvalidWears(WriterError):
    """A wear is out of range, or its fault clashes."""

    def __init__(self, index):
        super().__init__(f"index {index}")
        self.index = index


class InvalidTexts(WriterError):
    """One of several texts cannot be typed."""

    def __init__(self, index):
        super().__init__(f"index {index}")
        self.index = index


class InvalidMachines(WriterError):
    """There are too few or too many machines, or one is unlike the first."""

    def __init__(self, index):
        super().__init__(f"index {index}")
        self.index = index


class InvalidCosts(WriterError):
    """A fault has no cost, a wrong one, or a superfluous one."""

    def __init__(self, fault):
        super().__init__(f"fault {fault!r}")
        self.fault = fault


class InvalidCell(WriterError):
    """A sheet does not have this cell."""


class InvalidName(WriterError):
    """A mark cannot have this name."""


class UnknownMark(WriterError):
    """There is no mark with this name."""


class InvalidOperation(WriterError):
    """An operation is not a tuple of a name and its arguments."""

    def __init__(self, index):
        super().__init__(f"index {index}")
        self.index = index


class InvalidRow(WriterError):
    """A word of the text of a case is wrong, superfluous or missing."""

    def __init__(self, row, word):
        super().__init__(f"row {row}, word {word}")
        self.row = row
        self.word = word


class DecodeError(WriterError):
    """An item of a code is wrong, superfluous or missing."""

    def __init__(self, offset):
        super().__init__(f"offset {offset}")
        self.offset = offset


class DaybookError(WriterError):
    """A word of a daybook is wrong, or an entry cannot be done."""

    def __init__(self, row, word):
        super().__init__(f"row {row}, word {word}")
        self.row = row
        self.word = word
