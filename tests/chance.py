"""Programs by chance, but the same at each run of the tests, and what their machines begin with."""

import random

from model import Fault, Model

RIGHTS = "ghls"
PLAIN_CELLS = 16  # as many as there are with twelve rooms: keys are to these alone, so rooms may be added


def some_rights(chance, odds=0.85):
    return "".join(letter for letter in RIGHTS if chance.random() < odds)


def some_key(chance):
    begin = chance.randrange(PLAIN_CELLS)
    end = chance.randrange(begin, PLAIN_CELLS) + 1
    at = chance.choice((begin, end - 1, chance.randrange(begin, end), chance.randrange(begin - 3, end + 3)))
    return ("key", begin, end, at, some_rights(chance))


def some_number(chance):
    return chance.choice((0, 0, 1, 1, 2, 3, 4, -1, 5, 100, 9999, -10000, chance.randrange(-10000, 10000)))


def some_word(chance, rows):
    pick = chance.random()
    if pick < 0.4:
        return some_number(chance)
    if pick < 0.85:
        return some_key(chance)
    return ("gate", chance.randrange(rows + 1), chance.choice((some_number, some_key))(chance))


def seldom_key(chance, rows):
    """Choose a word that is a number mostly, and else bears a key to few cells, with few rights: not all is reached."""
    if chance.random() < 0.6:
        return some_number(chance)
    begin = chance.randrange(PLAIN_CELLS)
    end = min(begin + chance.choice((1, 1, 2, 5)), PLAIN_CELLS)
    key = ("key", begin, end, chance.choice((begin, begin, end - 1, begin - 2, -10000)), some_rights(chance, 0.7))
    return key if chance.random() < 0.7 else ("gate", chance.randrange(rows + 1), key)


WORDS = """put put move add take less same is get get get set set set narrow fewer gate enter
    room room room shut shut say say go if if end""".split()
# For programs that lend, keep and shut rooms, and mostly go straight on.
ROOMY = """put move same is is get get get set set set set narrow fewer gate gate enter
    room room room room room room shut shut shut shut say say""".split()


def some_row(chance, word, at, rows):
    """Choose a row that begins with this word, for a program of so many rows, in which it is at this number."""
    def box():
        return chance.randrange(8)

    def far():
        return chance.choice((0, 0, 0, 0, 1, 2, 3, -1, chance.randrange(-63, 64)))

    onward = min(at + 1, rows - 1)
    to = chance.choice((onward, onward, chance.randrange(rows)))
    values = {
        "put": lambda: (box(), some_number(chance)),
        "get": lambda: (box(), box(), far()),
        "set": lambda: (box(), far(), box()),
        "fewer": lambda: (box(), box(), some_rights(chance)),
        "gate": lambda: (box(), box(), chance.choice((at + 1, to, rows))),
        "go": lambda: (to,),
        "if": lambda: (box(), to),
        "end": lambda: (),
    }
    for name in ("move", "is"):
        values[name] = lambda: (box(), box())
    for name in ("add", "take", "less", "same", "narrow"):
        values[name] = lambda: (box(), box(), box())
    for name in ("enter", "room", "shut", "say"):
        values[name] = lambda: (box(),)
    return (word, *values[word]())


class Begin:
    """A program, and what a machine with it begins with."""

    def __init__(self, program, rooms, cells, boxes):
        self.program = program
        self.rooms = rooms
        self.cells = cells
        self.boxes = boxes

    def told(self):
        return (self.program, self.rooms, list(self.cells), list(self.boxes))

    def model(self):
        return Model(*self.told())


def some_begin(chance, rows, rooms, words=WORDS):
    """Choose rows that mostly are no faults where they stand, if the program runs straight on."""
    cells = [some_word(chance, rows) for _ in range(64 - 4 * rooms)]
    boxes = [some_word(chance, rows) for _ in range(8)]
    model = Model((("end",),) * rows, rooms, cells, boxes)
    program = []
    while len(program) < rows:
        row = fitting_row(chance, model, chance.choice(words), len(program), rows)
        if row is not None:
            program.append(row)
    return Begin(tuple(program), rooms, cells, boxes)


def fitting_row(chance, model, word, at, rows):
    """Try for a row with this word that is no fault, or now and then one that is; tell None if none is found."""
    if word in ("end", "enter") and chance.random() < 0.8:
        return None
    for _ in range(20):
        row = some_row(chance, word, at, rows)
        try:
            model.do(row, at + 1)
        except Fault:
            if chance.random() < 0.002:
                return row
        else:
            return row
    return None


def some_begins(seed, many, words=WORDS, sizes=(1, 2, 5, 20, 40, 50)):
    chance = random.Random(seed)
    for _ in range(many):
        yield some_begin(chance, chance.choice(sizes), chance.choice((0, 1, 1, 2, 2, 3, 4, 12)), words)


def some_explored(chance, rows, rooms, words, held):
    """Choose rows as a run comes to them, such as are no faults there: so it goes far, through gates, too."""
    cells = [held(chance, rows) for _ in range(64 - 4 * rooms)]
    boxes = [held(chance, rows) for _ in range(8)]
    program = [None] * rows
    model = Model(program, rooms, cells, boxes)
    for _ in range(200):
        if model.at == rows:
            break
        at, word = model.at, chance.choice(words)
        for _ in range(1 if program[at] else 20):
            row = program[at] or some_row(chance, word, at, rows)
            try:
                model.at = model.do(row, at + 1)
            except Fault:
                continue
            program[at] = row
            break
    return Begin(tuple(row or ("end",) for row in program), rooms, cells, boxes)
