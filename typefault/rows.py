"""Rows of words: what the texts of cases and daybooks have in common."""

from typefault.faults import NUMBERS_OF_FAULTS
from typefault.keyboards import SIGNS, has_two_signs
from typefault.sheets import WORDS

DIGITS = "0123456789"
MOST_DIGITS = 9


def rows_of(text):
    """Return the list of the rows of a text, each a list of its words."""
    return [row.split(" ") for row in text.split("\n")]


def row_text(words):
    """Return words and numbers as a row."""
    return " ".join([str(word) for word in words])


def is_written_number(word):
    """Tell whether a word is 0, or up to nine digits that do not begin with 0."""
    if word == "0":
        return True
    return 1 <= len(word) <= MOST_DIGITS and word[0] != "0" and all([sign in DIGITS for sign in word])


def are_ascending_signs(word):
    """Tell whether a word is of different signs that a key can have, ascending, and of one at least."""
    return word != "" and all([sign in SIGNS for sign in word]) and word == "".join(sorted(set(word)))


def has_form(word, form):
    """Tell whether a word is what its form tells."""
    if form == "number":
        return is_written_number(word)
    if form == "key":
        return has_two_signs(word)
    if form == "stroke":
        return word in WORDS or is_written_number(word)
    if form == "fault":
        return word in NUMBERS_OF_FAULTS
    return are_ascending_signs(word)


def forms_behind(words):
    """Return the list of the forms that the words of a row must have behind its first word, which is right."""
    first = words[0]
    if first == "keys":
        return ["key"] * (len(words) - 1)
    if first in ("strike", "strokes"):
        return ["stroke"] * (len(words) - 1)
    if first in ("most", "width"):
        return ["number"]
    if first == "cell":
        return ["number", "number", "signs"]
    if first in ("break", "fault", "mend"):
        numbers = NUMBERS_OF_FAULTS.get(words[1], 0) if len(words) > 1 else 0
        return ["fault"] + ["number"] * numbers
    return []


def first_wrong_word(words, first_words):
    """Return the number of the first word of a row that is wrong, superfluous or missing, or None."""
    if words[0] not in first_words:
        return 0
    forms = forms_behind(words)
    for number, form in enumerate(forms, 1):
        if number == len(words) or not has_form(words[number], form):
            return number
    return len(forms) + 1 if len(words) > len(forms) + 1 else None


def strokes_in(words):
    """Return the list of the strokes of a row."""
    return [word if word in WORDS else int(word) for word in words[1:]]


def fault_in(words):
    """Return the fault of a row."""
    return tuple(words[1:2] + [int(word) for word in words[2:]])
