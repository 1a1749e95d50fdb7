"""Texts: the strokes by which they are typed, and which of them was meant."""

from itertools import combinations

from typefault.errors import InvalidText, InvalidTexts
from typefault.sheets import MOST_STROKES, sheet_after


def strokes_of_sign(keyboard, sign, locked):
    """Return the strokes by which a sign is typed, and whether the lock is set then; no strokes if it is none."""
    if sign == " ":
        return ["space"], locked
    if sign == "\n":
        return ["return"], locked
    if sign not in keyboard.signs:
        return [], locked
    key, wanted = keyboard.place_of(sign)
    if wanted == locked:
        return [key], locked
    return ["up" if wanted else "down", key], wanted


def strokes_of(keyboard, text):
    """Return the strokes by which a text is typed."""
    strokes = []
    locked = False
    for index, sign in enumerate(text):
        more, locked = strokes_of_sign(keyboard, sign, locked)
        strokes.extend(more)
        if not more or len(strokes) > MOST_STROKES:
            raise InvalidText(index)
    return strokes


def sheets_of_texts(machine, texts):
    """Return the sheets that come out if texts are typed on a machine."""
    sheets = []
    for index, text in enumerate(texts):
        try:
            strokes = strokes_of(machine.keyboard, text)
        except InvalidText:
            raise InvalidTexts(index) from None
        sheets.append(sheet_after(machine, strokes))
    return sheets


def meant(machine, texts, sheet):
    """Return the ascending list of the indexes of the texts of which a sheet comes out."""
    return [index for index, other in enumerate(sheets_of_texts(machine, texts)) if other == sheet]


def confused(machine, texts):
    """Return the ascending list of all pairs of indexes of texts of which the same comes out."""
    sheets = sheets_of_texts(machine, texts)
    return [(one, other) for one, other in combinations(range(len(sheets)), 2) if sheets[one] == sheets[other]]
