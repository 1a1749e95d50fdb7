"""The same promises worked out in another, slower way, to compare the package with it."""

import itertools
import re

WORDS = ["back", "down", "return", "space", "up"]


class Typist:
    """Types stroke by stroke on a machine that is told by its keys, its width and its faults."""

    def __init__(self, keys, width, faults):
        self.width = width
        self.faults = set(faults)
        self.types = list(keys)
        for fault in faults:
            if fault[0] == "swap":
                _, one, other = fault
                self.types[one], self.types[other] = keys[other], keys[one]
        # Where the carriage stands at last if it comes to a column.
        self.landing = list(range(width))
        for column in reversed(range(width)):
            if ("slip", column) in self.faults:
                self.landing[column] = self.landing[column + 1]
        self.line = self.column = 0
        self.locked = False
        self.ink = {}

    def advance(self):
        if self.column + 1 < self.width:
            self.column = self.landing[self.column + 1]

    def strike(self, stroke):
        if stroke == "return":
            fed = [fault[1] for fault in self.faults if fault[0] == "feed"]
            self.line += fed[0] if fed else 1
            self.column = 0
        elif stroke == "back":
            if self.column > 0 and ("back",) not in self.faults:
                self.column -= 1
        elif stroke == "space":
            if ("space",) not in self.faults:
                self.advance()
        elif stroke == "up":
            if ("up",) not in self.faults:
                self.locked = True
        elif stroke == "down":
            if ("down",) not in self.faults:
                self.locked = False
        else:
            self.press(stroke)

    def press(self, key):
        for _ in range(1 + (("double", key) in self.faults)):
            if ("dead", key) not in self.faults:
                self.ink.setdefault((self.line, self.column), set()).add(self.types[key][self.locked])
            if ("stuck", key) not in self.faults:
                self.advance()

    def sheet(self):
        return {cell: "".join(sorted(self.ink[cell])) for cell in sorted(self.ink)}

    def state(self):
        return (self.line, self.column, self.locked)


def typist_behind(machine, strokes):
    typist = Typist(machine.keyboard.key_signs, machine.width, machine.faults)
    for stroke in strokes:
        typist.strike(stroke)
    return typist


def sheet_by(machine, strokes):
    return typist_behind(machine, strokes).sheet()


def sheet_worn_by(machine, wears, strokes):
    typist = Typist(machine.keyboard.key_signs, machine.width, machine.faults)
    for index, stroke in enumerate(strokes):
        come = [fault for count, fault in wears if count <= index]
        now = Typist(machine.keyboard.key_signs, machine.width, list(machine.faults) + come)
        now.line, now.column, now.locked, now.ink = typist.line, typist.column, typist.locked, typist.ink
        now.strike(stroke)
        typist = now
    return typist.sheet()


def strokes_of_text(keys, text):
    """Each sign by the word that it needs, then the words that change nothing are left out."""
    strokes = []
    locked = "down"
    for sign in text:
        if sign in " \n":
            strokes.append({" ": "space", "\n": "return"}[sign])
            continue
        key = [index for index, signs in enumerate(keys) if sign in signs][0]
        word = ("down", "up")[keys[key].index(sign)]
        strokes += [key] if word == locked else [word, key]
        locked = word
    return strokes


def depth_of(rows, tests):
    """How many tests are needed in the worst case; all tests of the list are tried next, useful or not."""
    if all(row[test] == rows[0][test] for row in rows for test in tests):
        return 0
    best = len(tests)
    for test in tests:
        parts = []
        for row in rows:
            same = [part for part in parts if part[0][test] == row[test]]
            if same:
                same[0].append(row)
            else:
                parts.append([row])
        best = min(best, 1 + max(depth_of(part, [other for other in tests if other != test]) for part in parts))
    return best


def text_of(sheet):
    """The text of a sheet, by a grid of blanks that is filled and then cut."""
    if not sheet:
        return ""
    grid = [[" "] * 20 for _ in range(max(line for line, _ in sheet) + 1)]
    for (line, column), signs in sheet.items():
        grid[line][column] = signs if len(signs) == 1 else "*"
    return "\n".join("".join(row).rstrip() for row in grid)


def clash(one, other):
    keys = ("dead", "double", "stuck", "swap")
    if one[0] in keys and other[0] in keys:
        return bool(set(one[1:]) & set(other[1:]))
    same = [{"up", "down"}, {"feed"}]
    return one == other or any(one[0] in words and other[0] in words for words in same)


def sets_of(pool, most):
    """All sets of faults of a pool, by all subsets, ordered at the end."""
    found = []
    for chosen in itertools.product((False, True), repeat=len(pool)):
        faults = [fault for fault, is_in in zip(pool, chosen) if is_in]
        if len(faults) <= most and not any(clash(a, b) for a, b in itertools.combinations(faults, 2)):
            found.append(tuple(sorted(faults)))
    return sorted(found, key=lambda faults: (len(faults), faults))


def lists_of_strokes(keyboard, longest):
    """All lists of strokes, shorter ones first, then in the order of strokes."""
    strokes = list(range(len(keyboard.key_signs))) + WORDS
    for length in range(longest + 1):
        for chosen in itertools.product(strokes, repeat=length):
            yield list(chosen)


def random_fault(source, keys, width):
    words = ["back", "dead", "double", "down", "feed", "space", "stuck", "swap", "up"]
    word = source.choice(words + ["slip", "slip"] if width > 2 else words)
    if word in ("dead", "double", "stuck"):
        return (word, source.randrange(keys))
    if word == "swap":
        return (word, *sorted(source.sample(range(keys), 2)))
    if word == "feed":
        return (word, source.choice([0, 2]))
    if word == "slip":
        return (word, source.randint(1, width - 2))
    return (word,)


def random_faults(source, keys, width, many):
    """At most so many faults that do not clash."""
    faults = []
    for _ in range(many):
        fault = random_fault(source, keys, width)
        if not any(clash(fault, other) for other in faults):
            faults.append(fault)
    return faults


def random_strokes(source, keys, most):
    strokes = list(range(keys)) * 3 + WORDS
    return [source.choice(strokes) for _ in range(source.randint(0, most))]


def ways_to_assign(rows, many):
    """In how many ways each row gets a machine of its own that is in it, by all choices of machines."""
    return sum(all(index in row for index, row in zip(chosen, rows))
               for chosen in itertools.permutations(range(many), len(rows)))


class History:
    """A bench that works everything out anew from its operations, each time that it is asked."""

    def __init__(self, pool, most, sheet_of_set):
        self.pool, self.most, self.sheet_of_set = pool, most, sheet_of_set
        self.operations, self.undone = [], []

    def now(self):
        """What is possible, and the marks, behind all operations."""
        sets, marks = {frozenset(faults) for faults in sets_of(self.pool, self.most)}, []
        for name, *told in self.operations:
            if name == "strike":
                sets = {faults for faults in sets if self.sheet_of_set(sorted(faults), told[0]) == told[1]}
            elif name == "repair":
                sets = {faults - {told[0]} for faults in sets}
            elif name == "wear":
                sets = {faults | {told[0]} for faults in sets
                        if len(faults) < self.most and not any(clash(told[0], other) for other in faults)}
            elif name == "mark":
                marks.append((told[0], sets))
            else:
                sets = [marked for other, marked in marks if other == told[0]][-1]
        return sorted((tuple(sorted(faults)) for faults in sets), key=lambda faults: (len(faults), faults)), marks

    def can(self, operation):
        """Whether an operation raises no error."""
        if operation[0] == "go":
            return operation[1] in dict(self.now()[1])
        if operation[0] in ("undo", "redo", "mark"):
            return True
        if operation[0] != "strike" and operation[1] not in self.pool:
            return False
        self.operations.append(operation)
        left = self.now()[0]
        self.operations.pop()
        return bool(left)

    def done(self, operation):
        """The result of an operation that raises no error."""
        if operation == ("undo",):
            self.undone += self.operations[-1:]
            return bool(self.operations and self.operations.pop())
        if operation == ("redo",):
            self.operations += self.undone[-1:]
            return bool(self.undone and self.undone.pop())
        known = dict(self.now()[1])
        self.operations.append(operation)
        self.undone = []
        return operation[1] in known if operation[0] == "mark" else len(self.now()[0])


SIGN = r"[a-zA-Z0-9.,;:!?-]"
NUMBER = r"(?:0|[1-9][0-9]{0,8})"
STROKE = rf"(?:{NUMBER}|back|down|return|space|up)"
PLAIN_FAULT, FAULT_OF_ONE = "(?:back|down|space|up)", "(?:dead|double|feed|slip|stuck)"
# For each first word what a row may be, and what it may be up to one of its words.
WHOLE_ROWS = {
    "keys": rf"keys(?: {SIGN}{SIGN})*", "width": rf"width {NUMBER}", "most": rf"most {NUMBER}",
    "fault": rf"\w+ (?:{PLAIN_FAULT}|{FAULT_OF_ONE} {NUMBER}|swap {NUMBER} {NUMBER})",
    "strokes": rf"\w+(?: {STROKE})*", "cell": rf"cell {NUMBER} {NUMBER} {SIGN}+",
    "show": "show", "state": "state", "faults": "faults"}
BEGUN_ROWS = {
    "keys": WHOLE_ROWS["keys"], "width": rf"width(?: {NUMBER})?", "most": rf"most(?: {NUMBER})?",
    "fault": rf"\w+(?: {PLAIN_FAULT}| {FAULT_OF_ONE}(?: {NUMBER})?| swap(?: {NUMBER}(?: {NUMBER})?)?)?",
    "strokes": WHOLE_ROWS["strokes"], "cell": rf"cell(?: {NUMBER}(?: {NUMBER}(?: {SIGN}+)?)?)?",
    "show": "show", "state": "state", "faults": "faults"}
LIKE = {"strike": "strokes", "break": "fault", "mend": "fault"}


def wrong_word(row, allowed):
    """The number of the first wrong word of a row, or None, by the patterns of its beginnings."""
    words = row.split(" ")
    if words[0] not in allowed:
        return 0
    kind = LIKE.get(words[0], words[0])
    for many in range(1, len(words) + 1):
        if not re.fullmatch(BEGUN_ROWS[kind], " ".join(words[:many])):
            return many - 1
        if kind == "cell" and many == 4 and any(a >= b for a, b in zip(words[3], words[3][1:])):
            return 3
    return None if re.fullmatch(WHOLE_ROWS[kind], row) else len(words)


def wrong_place(text):
    """The row and the word that are wrong in the text of a case, or None."""
    rows = text.split("\n")
    behind = False
    last = None
    for index, row in enumerate(rows):
        allowed = [["keys"], ["width"], ["most"]][index] if index < 3 else ["strokes", "cell" if behind else "fault"]
        wrong = wrong_word(row, allowed)
        found = re.match(rf"cell ({NUMBER}) ({NUMBER})(?: |$)", row)
        if wrong != 0 and found:
            cell = (int(found[1]), int(found[2]))
            wrong = 1 if last is not None and cell <= last else wrong
            last = cell
        if wrong is not None:
            return (index, wrong)
        if row.split(" ")[0] == "strokes":
            behind, last = True, None
    return (len(rows), 0) if len(rows) < 3 else None


def wrong_entry(text):
    """The row and the word that are wrong in a daybook by its form, or None."""
    rows = text.split("\n")
    for index, row in enumerate(rows):
        allowed = [["keys"], ["width"]][index] if index < 2 else ["strike", "break", "mend", "show", "state", "faults"]
        wrong = 0 if index > 101 else wrong_word(row, allowed)
        if wrong is not None:
            return (index, wrong)
    return (len(rows), 0) if len(rows) < 2 else None


def ranges_of_code(code):
    """The ranges of the items of a code ahead of its checksum, as far as the items tell them."""
    def item(index, most):
        return code[index] if index < len(code) and type(code[index]) is int and 0 <= code[index] <= most else 0
    keys = item(1, 10)
    ranges = [(116, 116), (2, 10)] + [(0, 68)] * (2 * keys) + [(2, 20), (0, 4), (0, 10)]
    for _ in range(item(len(ranges) - 1, 10)):
        ranges += [(0, 9)] + [(0, 20)] * [0, 1, 1, 0, 1, 1, 0, 1, 2, 0][item(len(ranges), 9)]
    return ranges


def wrong_offset(code):
    """The offset of the first wrong item of a code, or None."""
    ranges = ranges_of_code(code)
    checksum = 5
    for index, (low, high) in enumerate(ranges):
        if index >= len(code) or type(code[index]) is not int or not low <= code[index] <= high:
            return index
        checksum = (checksum * 19 + code[index]) % 253
    if len(ranges) == len(code) or type(code[len(ranges)]) is not int or code[len(ranges)] != checksum:
        return len(ranges)
    return len(ranges) + 1 if len(code) > len(ranges) + 1 else None
