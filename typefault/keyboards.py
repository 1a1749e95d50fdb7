"""Keyboards: their keys, and where each sign stands."""

from typefault.errors import InvalidKeyboard, UnknownSign

# All signs that a key can have, ascending.
SIGNS = "!,-.0123456789:;?ABCDEFGHIJKLMNOPQRSTUVWXYZabcdefghijklmnopqrstuvwxyz"
FEWEST_KEYS = 2
MOST_KEYS = 10


def has_two_signs(key):
    """Tell whether a key is a text of two signs, equal ones or not."""
    return isinstance(key, str) and len(key) == 2 and key[0] in SIGNS and key[1] in SIGNS


def first_wrong_key(keys):
    """Return the index that InvalidKeyboard has for these keys, or None if they are right."""
    earlier = ""
    for index, key in enumerate(keys):
        if index == MOST_KEYS or not has_two_signs(key):
            return index
        if key[0] == key[1] or key[0] in earlier or key[1] in earlier:
            return index
        earlier = earlier + key
    return len(keys) if len(keys) < FEWEST_KEYS else None


def places_of_signs(keys):
    """Return a dict from each sign to its tuple (key, locked)."""
    places = {}
    for number, key in enumerate(keys):
        places[key[0]] = (number, False)
        places[key[1]] = (number, True)
    return places


class Keyboard:
    """A keyboard of 2 to 10 keys, each of which has a plain sign and one for the lock."""

    def __init__(self, keys):
        wrong = first_wrong_key(keys)
        if wrong is not None:
            raise InvalidKeyboard(wrong)
        self.key_signs = tuple(keys)
        self.signs = "".join(sorted("".join(keys)))
        self._places = places_of_signs(keys)

    def place_of(self, sign):
        """Return the tuple (key, locked) by which a sign is typed."""
        if sign not in self._places:
            raise UnknownSign(f"no key has {sign!r}")
        return self._places[sign]

    def __len__(self):
        return len(self.key_signs)

    def __eq__(self, other):
        return isinstance(other, Keyboard) and self.key_signs == other.key_signs
