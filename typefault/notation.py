"""The text of a case and of evidence."""

from typefault.cases import Case, check_evidence
from typefault.errors import InvalidRow
from typefault.keyboards import Keyboard
from typefault.rows import fault_in, first_wrong_word, is_written_number, row_text, rows_of, strokes_in

# The first words of the rows that every text has.
HEAD = ("keys", "width", "most")


def format_case(case, evidence):
    """Return the text of a case and of evidence."""
    check_evidence(case.keyboard, evidence)
    rows = [["keys", *case.keyboard.key_signs], ["width", case.width], ["most", case.most]]
    rows.extend([["fault", *fault] for fault in case.pool])
    for strokes, sheet in evidence:
        rows.append(["strokes", *strokes])
        rows.extend([["cell", *cell, sheet[cell]] for cell in sorted(sheet)])
    return "\n".join([row_text(words) for words in rows])


def first_words_at(rows, index):
    """Return the first words that there can be in a row, if all rows ahead of it are right."""
    if index < len(HEAD):
        return (HEAD[index],)
    if rows[index - 1][0] in ("cell", "strokes"):
        return ("cell", "strokes")
    return ("fault", "strokes")


def cell_in(words):
    """Return the cell of a row `cell` whose line and column are numbers, or None."""
    if words[0] != "cell" or len(words) < 3:
        return None
    if not is_written_number(words[1]) or not is_written_number(words[2]):
        return None
    return (int(words[1]), int(words[2]))


def goes_back(words, words_before):
    """Tell whether a row has a cell that does not stand behind the one of the row before."""
    cell = cell_in(words)
    before = cell_in(words_before)
    return cell is not None and before is not None and cell <= before


def check_rows(rows):
    """Raise InvalidRow for the first word that is wrong, superfluous or missing, then for a missing row."""
    for index, words in enumerate(rows):
        wrong = first_wrong_word(words, first_words_at(rows, index))
        # Whether a cell goes back is seen at its line, ahead of its signs.
        if index > 0 and goes_back(words, rows[index - 1]):
            wrong = 1
        if wrong is not None:
            raise InvalidRow(index, wrong)
    if len(rows) < len(HEAD):
        raise InvalidRow(len(rows), 0)


def evidence_in(rows):
    """Return the evidence of rows that are right."""
    evidence = []
    for words in rows:
        if words[0] == "strokes":
            evidence.append((strokes_in(words), {}))
        if words[0] == "cell":
            sheet = evidence[-1][1]
            sheet[cell_in(words)] = words[3]
    return evidence


def parse_case(text):
    """Return the tuple (case, evidence) of a text."""
    rows = rows_of(text)
    check_rows(rows)
    keyboard = Keyboard(tuple(rows[0][1:]))
    pool = [fault_in(words) for words in rows if words[0] == "fault"]
    case = Case(keyboard, int(rows[1][1]), tuple(pool), int(rows[2][1]))
    evidence = evidence_in(rows)
    check_evidence(keyboard, evidence)
    return case, evidence
