"""Plain programs by chance, and what they do told in another way, to compare run_places and keyed with."""

import random

from model import in_stretch

WORDS = "put put put move add take less same say say go if get get get set set set end".split()
BOXES = range(6)


class Places:
    """A plain program as it stands behind some rows."""

    def __init__(self, program, cells):
        self.program = program
        self.cells = dict(enumerate(cells))
        self.box = dict.fromkeys(BOXES, 0)
        self.said = []
        self.at = 0
        self.end = None
        self.steps = 0

    def step(self):
        self.steps += 1
        try:
            self.at = self.do(*self.program[self.at])
        except KeyError:
            self.end = ("fault", "beyond", self.at)
        else:
            if self.at == len(self.program):
                self.end = ("end",)

    def do(self, word, *values):
        """Do a row; tell the one to which it goes on. A cell that there isn't is a KeyError."""
        box = self.box
        if word in ("put", "move", "add", "take", "less", "same"):
            r, *others = values
            box[r] = others[0] if word == "put" else self.value(word, *[box[other] for other in others])
        elif word == "get":
            box[values[0]] = self.cells[box[values[1]]]
        elif word == "set":
            if box[values[0]] not in self.cells:
                raise KeyError(box[values[0]])
            self.cells[box[values[0]]] = box[values[2]]
        elif word == "say":
            self.said.append(box[values[0]])
        elif word == "go":
            return values[0]
        elif word == "if" and box[values[0]] != 0:
            return values[1]
        elif word == "end":
            return len(self.program)
        return self.at + 1

    def value(self, word, first, second=0):
        if word in ("move", "add"):
            return in_stretch(first + second)
        if word == "take":
            return in_stretch(first - second)
        return int(first < second if word == "less" else first == second)

    def run(self, fuel):
        while self.end is None and self.steps < fuel:
            self.step()
        return (self.said, self.end or ("long",), self.steps, [self.cells[cell] for cell in range(64)])


def some_place(chance):
    """Choose a number that mostly is a cell's."""
    return chance.choice((*[chance.randrange(64) for _ in range(8)], 0, 63, 1, -1, 64, 9999, -10000))


def some_plain_row(chance, word, at, rows):
    def box():
        return chance.choice(BOXES)

    to = chance.choice((min(at + 1, rows - 1), chance.randrange(rows)))
    if word == "put":
        return ("put", box(), some_place(chance))
    if word == "get":
        return ("get", box(), box(), 0)
    if word == "set":
        return ("set", box(), 0, box())
    many = {"move": 2, "say": 1, "if": 1, "go": 0, "end": 0}.get(word, 3)
    return (word, *[box() for _ in range(many)], *([to] if word in ("go", "if") else []))


def some_plains(seed, many, words=WORDS, sizes=(1, 2, 5, 15, 29, 30)):
    """Choose plain programs, with words in cells."""
    chance = random.Random(seed)
    for _ in range(many):
        rows = chance.choice(sizes)
        program = tuple(some_plain_row(chance, chance.choice(words), at, rows) for at in range(rows))
        if chance.random() < 0.5:
            program = tuple(("say", 0) if row == ("end",) else row for row in program)
        yield program, [some_place(chance) for _ in range(64)]
