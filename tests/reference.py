"""The same promises worked out in another, slower way, to compare the package with it."""

import itertools

WORDS = ["back", "down", "return", "space", "up"]


class Typist:
    """Types stroke by stroke on a machine that is told by its keys, its width and its faults."""

    def __init__(self, keys, width, faults):
        self.width = width
        self.faults = set(faults)
        self.types = list(keys)
        for fault in faults:
            if fault[0] == "swap":
                _, one, other = fault
                self.types[one], self.types[other] = keys[other], keys[one]
        # Where the carriage stands at last if it comes to a column.
        self.landing = list(range(width))
        for column in reversed(range(width)):
            if ("slip", column) in self.faults:
                self.landing[column] = self.landing[column + 1]
        self.line = self.column = 0
        self.locked = False
        self.ink = {}

    def advance(self):
        if self.column + 1 < self.width:
            self.column = self.landing[self.column + 1]

    def strike(self, stroke):
        if stroke == "return":
            fed = [fault[1] for fault in self.faults if fault[0] == "feed"]
            self.line += fed[0] if fed else 1
            self.column = 0
        elif stroke == "back":
            if self.column > 0 and ("back",) not in self.faults:
                self.column -= 1
        elif stroke == "space":
            if ("space",) not in self.faults:
                self.advance()
        elif stroke == "up":
            if ("up",) not in self.faults:
                self.locked = True
        elif stroke == "down":
            if ("down",) not in self.faults:
                self.locked = False
        else:
            self.press(stroke)

    def press(self, key):
        for _ in range(1 + (("double", key) in self.faults)):
            if ("dead", key) not in self.faults:
                self.ink.setdefault((self.line, self.column), set()).add(self.types[key][self.locked])
            if ("stuck", key) not in self.faults:
                self.advance()

    def sheet(self):
        return {cell: "".join(sorted(self.ink[cell])) for cell in sorted(self.ink)}

    def state(self):
        return (self.line, self.column, self.locked)


def typist_behind(machine, strokes):
    typist = Typist(machine.keyboard.key_signs, machine.width, machine.faults)
    for stroke in strokes:
        typist.strike(stroke)
    return typist


def sheet_by(machine, strokes):
    return typist_behind(machine, strokes).sheet()


def sheet_worn_by(machine, wears, strokes):
    typist = Typist(machine.keyboard.key_signs, machine.width, machine.faults)
    for index, stroke in enumerate(strokes):
        come = [fault for count, fault in wears if count <= index]
        now = Typist(machine.keyboard.key_signs, machine.width, list(machine.faults) + come)
        now.line, now.column, now.locked, now.ink = typist.line, typist.column, typist.locked, typist.ink
        now.strike(stroke)
        typist = now
    return typist.sheet()


def strokes_of_text(keys, text):
    """Each sign by the word that it needs, then the words that change nothing are left out."""
    strokes = []
    locked = "down"
    for sign in text:
        if sign in " \n":
            strokes.append({" ": "space", "\n": "return"}[sign])
            continue
        key = [index for index, signs in enumerate(keys) if sign in signs][0]
        word = ("down", "up")[keys[key].index(sign)]
        strokes += [key] if word == locked else [word, key]
        locked = word
    return strokes


def depth_of(rows, tests):
    """How many tests are needed in the worst case; all tests of the list are tried next, useful or not."""
    if all(row[test] == rows[0][test] for row in rows for test in tests):
        return 0
    best = len(tests)
    for test in tests:
        parts = []
        for row in rows:
            same = [part for part in parts if part[0][test] == row[test]]
            if same:
                same[0].append(row)
            else:
                parts.append([row])
        best = min(best, 1 + max(depth_of(part, [other for other in tests if other != test]) for part in parts))
    return best


def text_of(sheet):
    """The text of a sheet, by a grid of blanks that is filled and then cut."""
    if not sheet:
        return ""
    grid = [[" "] * 20 for _ in range(max(line for line, _ in sheet) + 1)]
    for (line, column), signs in sheet.items():
        grid[line][column] = signs if len(signs) == 1 else "*"
    return "\n".join("".join(row).rstrip() for row in grid)


def clash(one, other):
    keys = ("dead", "double", "stuck", "swap")
    if one[0] in keys and other[0] in keys:
        return bool(set(one[1:]) & set(other[1:]))
    same = [{"up", "down"}, {"feed"}]
    return one == other or any(one[0] in words and other[0] in words for words in same)


def sets_of(pool, most):
    """All sets of faults of a pool, by all subsets, ordered at the end."""
    found = []
    for chosen in itertools.product((False, True), repeat=len(pool)):
        faults = [fault for fault, is_in in zip(pool, chosen) if is_in]
        if len(faults) <= most and not any(clash(a, b) for a, b in itertools.combinations(faults, 2)):
            found.append(tuple(sorted(faults)))
    return sorted(found, key=lambda faults: (len(faults), faults))


def lists_of_strokes(keyboard, longest):
    """All lists of strokes, shorter ones first, then in the order of strokes."""
    strokes = list(range(len(keyboard.key_signs))) + WORDS
    for length in range(longest + 1):
        for chosen in itertools.product(strokes, repeat=length):
            yield list(chosen)


def random_fault(source, keys, width):
    words = ["back", "dead", "double", "down", "feed", "space", "stuck", "swap", "up"]
    word = source.choice(words + ["slip", "slip"] if width > 2 else words)
    if word in ("dead", "double", "stuck"):
        return (word, source.randrange(keys))
    if word == "swap":
        return (word, *sorted(source.sample(range(keys), 2)))
    if word == "feed":
        return (word, source.choice([0, 2]))
    if word == "slip":
        return (word, source.randint(1, width - 2))
    return (word,)


def random_faults(source, keys, width, many):
    """At most so many faults that do not clash."""
    faults = []
    for _ in range(many):
        fault = random_fault(source, keys, width)
        if not any(clash(fault, other) for other in faults):
            faults.append(fault)
    return faults


def random_strokes(source, keys, most):
    strokes = list(range(keys)) * 3 + WORDS
    return [source.choice(strokes) for _ in range(source.randint(0, most))]
