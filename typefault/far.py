"""What comes out if strokes are typed ever so many times, one after another on one sheet."""

from typefault.faults import check_number
from typefault.sheets import START, after_strokes, check_strokes, line_text, sheet_of

MOST_TIMES = 10 ** 18
LAST_LINE = 10 ** 21


def lines_each_time(machine, strokes):
    """Return by how many lines the strokes go on, wherever they begin."""
    return after_strokes(machine, START, strokes)[0][0]


def first_starts(machine, strokes):
    """Return the tuples (column, locked) where repetitions begin, until one comes again, and that one."""
    starts = []
    start = START[1:]
    while start not in starts:
        starts.append(start)
        start = after_strokes(machine, (0, *start), strokes)[0][1:]
    return starts, start


def state_before(machine, strokes, repetition):
    """Return the state in which a repetition begins."""
    starts, again = first_starts(machine, strokes)
    if repetition < len(starts):
        column, locked = starts[repetition]
    else:
        loop = starts[starts.index(again):]
        column, locked = loop[(repetition - len(starts)) % len(loop)]
    return (repetition * lines_each_time(machine, strokes), column, locked)


def repetitions_on(machine, strokes, count, line):
    """Return the repetitions that can print on a line; of several that print the same, perhaps one alone."""
    lines = lines_each_time(machine, strokes)
    if lines == 0:
        return list(range(min(count, len(first_starts(machine, strokes)[0]))))
    # A repetition ends on the line on which the next one begins.
    last = line // lines
    return [repetition for repetition in (last - 1, last) if 0 <= repetition < count]


def state_far(machine, strokes, count):
    """Return the state after strokes are typed so many times."""
    check_strokes(machine.keyboard, strokes)
    check_number(count, MOST_TIMES)
    return state_before(machine, strokes, count)


def line_far(machine, strokes, count, line):
    """Return the text of a line of the sheet on which strokes are typed so many times."""
    check_strokes(machine.keyboard, strokes)
    check_number(count, MOST_TIMES)
    check_number(line, LAST_LINE)
    prints = []
    for repetition in repetitions_on(machine, strokes, count, line):
        prints.extend(after_strokes(machine, state_before(machine, strokes, repetition), strokes)[1])
    return line_text(sheet_of(prints), line)
