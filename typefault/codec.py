"""The code of a case: a list of integers from 0 to 255."""

from typefault.cases import MOST_AT_ONCE, MOST_IN_POOL, Case
from typefault.errors import DecodeError
from typefault.faults import NUMBERS_OF_FAULTS, is_number
from typefault.keyboards import FEWEST_KEYS, MOST_KEYS, SIGNS, Keyboard
from typefault.machines import LEAST_WIDTH, MOST_WIDTH

FIRST_ITEM = 116
MOST_IN_FAULT = 20


def checksum_of(items):
    """Return the checksum of the items ahead of it."""
    checksum = 5
    for item in items:
        checksum = (19 * checksum + item) % 253
    return checksum


def encode_case(case):
    """Return the code of a case."""
    code = [FIRST_ITEM, len(case.keyboard)]
    code.extend([SIGNS.index(sign) for key in case.keyboard.key_signs for sign in key])
    code.extend([case.width, case.most, len(case.pool)])
    words = list(NUMBERS_OF_FAULTS)
    for fault in case.pool:
        code.append(words.index(fault[0]))
        code.extend(fault[1:])
    code.append(checksum_of(code))
    return code


class Reader:
    """Reads a code item by item."""

    def __init__(self, code):
        self._code = code
        self._offset = 0

    def take(self, low, high):
        """Return the next item, which must be an integer from low to high."""
        if self._offset == len(self._code) or not is_number(self._code[self._offset], low, high):
            raise DecodeError(self._offset)
        self._offset += 1
        return self._code[self._offset - 1]

    def take_sign(self):
        """Return the sign that the next item tells."""
        return SIGNS[self.take(0, len(SIGNS) - 1)]

    def take_key(self):
        """Return the key that the next two items tell."""
        plain = self.take_sign()
        return plain + self.take_sign()

    def take_fault(self):
        """Return the fault that the next items tell."""
        words = list(NUMBERS_OF_FAULTS)
        word = words[self.take(0, len(words) - 1)]
        return tuple([word] + [self.take(0, MOST_IN_FAULT) for _ in range(NUMBERS_OF_FAULTS[word])])

    def end(self):
        """Take the checksum, behind which there must be nothing."""
        checksum = checksum_of(self._code[:self._offset])
        self.take(checksum, checksum)
        if self._offset < len(self._code):
            raise DecodeError(self._offset)


def decode_case(values):
    """Return the case of a code."""
    reader = Reader(values)
    reader.take(FIRST_ITEM, FIRST_ITEM)
    keys = [reader.take_key() for _ in range(reader.take(FEWEST_KEYS, MOST_KEYS))]
    width = reader.take(LEAST_WIDTH, MOST_WIDTH)
    most = reader.take(0, MOST_AT_ONCE)
    pool = [reader.take_fault() for _ in range(reader.take(0, MOST_IN_POOL))]
    reader.end()
    return Case(Keyboard(tuple(keys)), width, tuple(pool), most)
