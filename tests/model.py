"""The document's machine told in another way, to compare the program with.

A room that is lent is an area of its own here, which lies nowhere: a key names its area, and counts its cells from the
area's own begin. An area that is shut is forgotten, and a key to a forgotten area is 0 whenever it is looked at.
"""

PLAIN = 0  # the area of the cells that are no room's


class Fault(Exception):
    pass


def want(holds, fault):
    if not holds:
        raise Fault(fault)


def in_stretch(number):
    while number > 9999:
        number -= 20000
    while number < -10000:
        number += 20000
    return number


def kind(word):
    return 0 if isinstance(word, int) else 1 if word[0] == "key" else 2


def inner(word):
    """Tell a word that is handed in as it is kept here: its key is to cells that are no room's."""
    if kind(word) == 1:
        return ("key", PLAIN, *word[1:])
    if kind(word) == 2:
        return ("gate", word[1], inner(word[2]))
    return word


class Model:
    def __init__(self, program, rooms, cells, boxes):
        self.program = program
        self.rooms = rooms
        self.areas = {PLAIN: [inner(word) for word in cells]}
        self.box = [inner(word) for word in boxes]
        self.lent = []       # areas of rooms, in the turn in which they were lent
        self.lendings = 0
        self.most_lent = 0   # at once
        self.short = False   # whether a room was ever asked for in vain
        self.said = []
        self.at = 0
        self.end = None
        self.steps = 0

    def now(self, word):
        if kind(word) == 1:
            return word if word[1] in self.areas else 0
        if kind(word) == 2:
            return ("gate", word[1], self.now(word[2]))
        return word

    def held(self, box):
        return self.now(self.box[box])

    def key(self, box):
        word = self.held(box)
        want(kind(word) == 1, "kind")
        return word

    def number(self, box):
        word = self.held(box)
        want(kind(word) == 0, "kind")
        return word

    def cell(self, key, far):
        _, area, begin, end, at, _ = key
        want(at + far in range(begin, end), "beyond")
        return self.areas[area], at + far

    def step(self):
        """Do a row; tell its number."""
        at = self.at
        self.steps += 1
        try:
            self.at = self.do(self.program[at], at + 1)
        except Fault as fault:
            self.end = ("fault", str(fault), at)
        else:
            if self.at == len(self.program):
                self.end = ("end",)
        return at

    def do(self, row, behind):
        """Do a row; tell the one to which it goes on."""
        match row:
            case ("go", to):
                return to
            case ("if", s, to):
                return behind if self.held(s) == 0 else to
            case ("end",):
                return len(self.program)
            case ("say", s):
                self.said.append(self.number(s))
            case ("enter", s):
                gate, word = self.held(s), self.held(7)
                want(kind(gate) == 2 and kind(word) != 2, "kind")
                self.box[6], self.box[7] = ("gate", behind, word), gate[2]
                return gate[1]
            case ("set", s, far, t):
                key, word = self.key(s), self.held(t)
                want("s" in key[5], "right")
                cells, cell = self.cell(key, far)
                want("h" in key[5] or kind(word) == 0, "right")
                cells[cell] = word
            case ("shut", s):
                _, area, begin, end, _, rights = self.key(s)
                want("l" in rights, "right")
                want(area != PLAIN and (begin, end) == (0, 4), "room")
                del self.areas[area]
                self.lent.remove(area)
            case (word, r, *values):
                self.box[r] = getattr(self, f"do_{word}")(*values)
        return behind

    def do_put(self, number):
        return number

    def do_move(self, s):
        return self.held(s)

    def do_add(self, s, t, sign=1):
        word = self.held(s)
        want(kind(word) != 2, "kind")
        by = sign * self.number(t)
        if kind(word) == 0:
            return in_stretch(word + by)
        return (*word[:4], in_stretch(word[4] + by), word[5])

    def do_take(self, s, t):
        return self.do_add(s, t, -1)

    def do_less(self, s, t):
        return int(self.number(s) < self.number(t))

    def do_same(self, s, t):
        return int(self.held(s) == self.held(t))

    def do_is(self, s):
        return kind(self.held(s))

    def do_get(self, s, far):
        key = self.key(s)
        want("g" in key[5], "right")
        cells, cell = self.cell(key, far)
        word = self.now(cells[cell])
        return word if "h" in key[5] or kind(word) == 0 else 0

    def do_narrow(self, s, t):
        _, area, begin, end, at, rights = self.key(s)
        cells = range(at, at + self.number(t))
        want(cells and set(cells) <= set(range(begin, end)), "beyond")
        return ("key", area, cells.start, cells.stop, at, rights)

    def do_fewer(self, s, rights):
        key = self.key(s)
        return (*key[:5], "".join(sorted(set(key[5]) & set(rights))))

    def do_gate(self, s, row):
        word = self.held(s)
        want(kind(word) != 2, "kind")
        return ("gate", row, word)

    def do_room(self):
        if len(self.lent) == self.rooms:
            self.short = True
            return 0
        self.lendings += 1
        self.areas[self.lendings] = [0, 0, 0, 0]
        self.lent.append(self.lendings)
        self.most_lent = max(self.most_lent, len(self.lent))
        return ("key", self.lendings, 0, 4, 0, "ghls")

    def run(self, fuel):
        while self.end is None and self.steps < fuel:
            self.step()
        return (self.said, self.end or ("long",), self.steps)

    def outer(self, word, firsts):
        """Tell a word as it is told outside, where the rooms that are lent have these first cells."""
        word = self.now(word)
        if kind(word) == 2:
            return ("gate", word[1], self.outer(word[2], firsts))
        if kind(word) == 1:
            _, area, begin, end, at, rights = word
            first = 0 if area == PLAIN else firsts[self.lent.index(area)]
            return ("key", first + begin, first + end, in_stretch(first + at), rights)
        return word

    def boxes(self, firsts=()):
        return [self.outer(word, firsts) for word in self.box]

    def cells(self, firsts=()):
        """Tell what the cells hold that are no room's, and a dict of what those of rooms that are lent hold."""
        told = {area: [self.outer(word, firsts) for word in words] for area, words in self.areas.items()}
        return told.pop(PLAIN), {firsts[self.lent.index(area)]: words for area, words in told.items()}
