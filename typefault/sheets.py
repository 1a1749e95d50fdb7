"""Strokes, and the sheets that come out of them."""

from typefault.errors import InvalidStrokes
from typefault.faults import is_number
from typefault.machines import Machine

# The strokes that are words, ascending; the numbers of the keys stand ahead of them.
WORDS = ("back", "down", "return", "space", "up")
MOST_STROKES = 60
# A state is a tuple (line, column, locked).
START = (0, 0, False)


def all_strokes(keyboard):
    """Return the list of all strokes, in their order."""
    return list(range(len(keyboard))) + list(WORDS)


def is_stroke(keyboard, stroke):
    """Tell whether this is the number of a key or one of the words."""
    return stroke in WORDS or is_number(stroke, 0, len(keyboard) - 1)


def first_wrong_stroke(keyboard, strokes):
    """Return the index that InvalidStrokes has for these strokes, or None if they are right."""
    for index, stroke in enumerate(strokes):
        if index == MOST_STROKES or not is_stroke(keyboard, stroke):
            return index
    return None


def check_strokes(keyboard, strokes):
    """Raise InvalidStrokes if a stroke is none, or if there are too many."""
    wrong = first_wrong_stroke(keyboard, strokes)
    if wrong is not None:
        raise InvalidStrokes(wrong)


def next_column(machine, column):
    """Return the column to which a key or the space bar moves the carriage."""
    if column == machine.width - 1:
        return column
    column = column + 1
    while ("slip", column) in machine.faults:
        column = column + 1
    return column


def lines_fed(machine):
    """Return by how many lines the lever goes on."""
    for lines in (0, 2):
        if ("feed", lines) in machine.faults:
            return lines
    return 1


def key_of_types(machine, key):
    """Return the key whose types are where those of this key should be."""
    for fault in machine.faults:
        if fault[0] == "swap" and key in fault[1:]:
            return fault[2] if key == fault[1] else fault[1]
    return key


def after_key(machine, state, key):
    """Return the state behind the stroke of a key, and the list of what it prints, tuples (cell, sign)."""
    line, column, locked = state
    plain, other = machine.keyboard.key_signs[key_of_types(machine, key)]
    sign = other if locked else plain
    prints = []
    for _ in range(2 if ("double", key) in machine.faults else 1):
        if ("dead", key) not in machine.faults:
            prints.append(((line, column), sign))
        if ("stuck", key) not in machine.faults:
            column = next_column(machine, column)
    return (line, column, locked), prints


def after_word(machine, state, word):
    """Return the state behind a stroke that is a word."""
    line, column, locked = state
    if word == "return":
        return (line + lines_fed(machine), 0, locked)
    if word == "up":
        return (line, column, locked or ("up",) not in machine.faults)
    if word == "down":
        return (line, column, locked and ("down",) in machine.faults)
    if (word,) in machine.faults:
        return state
    if word == "back":
        return (line, max(column - 1, 0), locked)
    return (line, next_column(machine, column), locked)


def after_stroke(machine, state, stroke):
    """Return the state behind a stroke, and the list of what it prints, tuples (cell, sign)."""
    if stroke in WORDS:
        return after_word(machine, state, stroke), []
    return after_key(machine, state, stroke)


def after_strokes(machine, state, strokes):
    """Return the state behind several strokes, and the list of all that they print."""
    prints = []
    for stroke in strokes:
        state, printed = after_stroke(machine, state, stroke)
        prints.extend(printed)
    return state, prints


def sheet_of(prints):
    """Return the sheet on which this was printed, tuples (cell, sign) in any order."""
    signs = {}
    for cell, sign in prints:
        if sign not in signs.get(cell, ""):
            signs[cell] = signs.get(cell, "") + sign
    return {cell: "".join(sorted(signs[cell])) for cell in sorted(signs)}


def sheet_after(machine, strokes):
    """Return the sheet that comes out of strokes that are known to be right."""
    return sheet_of(after_strokes(machine, START, strokes)[1])


def cells_apart(sheet, other):
    """Return the ascending list of the cells in which two sheets have not the same signs."""
    cells = sorted(set(list(sheet) + list(other)))
    return [cell for cell in cells if sheet.get(cell, "") != other.get(cell, "")]


def line_text(sheet, line):
    """Return the text of a line of a sheet, up to the last column in which something was printed."""
    columns = [column for at, column in sheet if at == line]
    signs = [sheet.get((line, column), " ") for column in range(max(columns, default=-1) + 1)]
    return "".join([sign if len(sign) == 1 else "*" for sign in signs])


def state_after(machine, strokes):
    """Return the tuple (line, column, locked) of a machine behind these strokes."""
    check_strokes(machine.keyboard, strokes)
    return after_strokes(machine, START, strokes)[0]


def typed(machine, strokes):
    """Return the sheet that comes out of these strokes: a dict from cells to the signs in them."""
    check_strokes(machine.keyboard, strokes)
    return sheet_after(machine, strokes)


def shown(sheet):
    """Return the text of a sheet."""
    last = max([line for line, _ in sheet], default=-1)
    return "\n".join([line_text(sheet, line) for line in range(last + 1)])


def spoiled(machine, strokes):
    """Return the ascending list of the cells that are not as without faults."""
    faultless = Machine(machine.keyboard, machine.width, ())
    return cells_apart(typed(machine, strokes), typed(faultless, strokes))
