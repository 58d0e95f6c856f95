"""Promises [5] and [7], and [2] for what comes of numbers: what each row does, and its faults in their turn."""

import itertools
import unittest

from model import Model
from tagmachine.machine import Machine
from tagmachine.plain import run

END = ("end",)
KEY = ("key", 8, 12, 9, "ghls")
GATE = ("gate", 2, 7)
# Each kind of word, with the edges of each; the machine has five rows.
WORDS = (
    0, 1, 3, 4, -1, 9999, -10000,
    KEY, ("key", 8, 12, 9, ""), ("key", 8, 12, 9, "g"), ("key", 8, 12, 9, "gs"), ("key", 8, 12, 9, "hl"),
    ("key", 8, 12, 12, "ghls"), ("key", 8, 12, 9999, "ghls"), ("key", 8, 12, -10000, "s"),
    GATE, ("gate", 5, KEY), ("gate", 0, 0),
)
FEW_WORDS = (0, 2, KEY, ("key", 8, 12, 9, "g"), GATE, ("gate", 5, KEY))


def cells_with(*pairs):
    """Tell 64 cells, those from 8 on with a word of each kind, and these."""
    cells = [0] * 64
    cells[8:12] = [-7, KEY, ("gate", 4, KEY), 5]
    for cell, word in pairs:
        cells[cell] = word
    return cells


def boxes_with(*pairs):
    """Tell eight boxes, of which each holds another number, but these."""
    boxes = [10, 20, 30, 40, 50, 60, 70, 80]
    for box, word in pairs:
        boxes[box] = word
    return boxes


def program_with(row):
    return (row, END, END, END, END)


class RowTest(unittest.TestCase):
    def check_box(self, row, pairs, box, word, cells=None):
        """See that a row puts a word in a box, changes nothing else, and goes on to the next row; by run, too."""
        boxes = boxes_with(*pairs)
        cells = cells_with() if cells is None else cells
        machine = Machine(program_with(row), 0, cells, boxes)
        self.assertEqual(machine.step(), 0, (row, pairs))
        after = list(boxes)
        after[box] = word
        self.assertEqual(machine.boxes(), after, (row, pairs))
        self.assertEqual(machine.cells(), cells, (row, pairs))
        self.assertEqual((machine.said(), machine.ended(), machine.step()), ([], None, 1), (row, pairs))
        self.check_said_same(row, boxes, cells, box, word)

    def check_said_same(self, row, boxes, cells, box, word):
        """See by run that the box holds the word then: it is handed in in a box that the row doesn't use."""
        spare = min(set(range(8)) - {value for value in row if isinstance(value, int)} - {6, 7})
        boxes = list(boxes)
        boxes[spare] = word
        program = (row, ("same", spare, box, spare), ("say", spare), END, END)
        self.assertEqual(run(program, 0, cells, boxes, 9), ([1], ("end",), 4), (row, boxes))

    def check_fault(self, fault, row, pairs, cells=None):
        """See that a row is a fault, and changes nothing; by run, too."""
        boxes = boxes_with(*pairs)
        cells = cells_with() if cells is None else cells
        machine = Machine((("go", 1), row, END, END, END), 0, cells, boxes)
        self.assertEqual((machine.step(), machine.ended()), (0, None))
        self.assertEqual(machine.step(), 1, (row, pairs))
        self.assertEqual(machine.ended(), ("fault", fault, 1), (row, pairs))
        self.assertEqual((machine.boxes(), machine.cells(), machine.said()), (boxes, cells, []), (row, pairs))
        self.assertEqual(machine.rooms(), ([], []))
        self.assertEqual(run(program_with(row), 0, cells, boxes, 9), ([], ("fault", fault, 0), 1), (row, pairs))


class EachRowWithEachWord(unittest.TestCase):
    def check(self, row, boxes):
        cells = cells_with((0, KEY), (63, GATE))
        told = (program_with(row), 0, cells, boxes)
        model, machine = Model(*told), Machine(*told)
        self.assertEqual(machine.step(), model.step())
        self.assertEqual(machine.boxes(), model.boxes(), (row, boxes))
        self.assertEqual(machine.cells(), model.cells()[0], (row, boxes))
        self.assertEqual((machine.said(), machine.ended()), (model.said, model.end), (row, boxes))
        self.assertEqual(run(*told, 9), Model(*told).run(9), (row, boxes))

    def test_one_box_read_and_one_written(self):
        rows = [(word, r, 2) for word in ("move", "is") for r in (1, 2)]
        rows += [("get", r, 2, far) for r in (1, 2) for far in (-2, -1, 0, 2, 3, 54, -63, 63)]
        rows += [("fewer", r, 2, rights) for r in (1, 2) for rights in ("", "g", "hs", "ghls")]
        rows += [("gate", r, 2, row) for r in (1, 2) for row in (0, 1, 4, 5)]
        rows += [("enter", 2), ("shut", 2), ("say", 2), ("if", 2, 0), ("if", 2, 3)]
        for row, word in itertools.product(rows, WORDS):
            self.check(row, boxes_with((2, word)))

    def test_two_boxes_read(self):
        for word in ("add", "take", "less", "same", "narrow"):
            for r, first, second in itertools.product((1, 2, 3), WORDS, WORDS):
                self.check((word, r, 2, 3), boxes_with((2, first), (3, second)))
        for far, first, second in itertools.product((-2, -1, 0, 2, 3), WORDS, WORDS):
            self.check(("set", 2, far, 3), boxes_with((2, first), (3, second)))

    def test_one_box_read_twice(self):
        for first in WORDS:
            for word, r in itertools.product(("add", "take", "less", "same", "narrow"), (1, 2)):
                self.check((word, r, 2, 2), boxes_with((2, first)))
            self.check(("set", 2, 0, 2), boxes_with((2, first)))

    def test_no_box_read(self):
        for row in (("put", 3, -10000), ("put", 3, 9999), ("put", 0, 0), ("room", 5), ("go", 0), ("go", 4), END):
            for word in FEW_WORDS:
                self.check(row, boxes_with((3, word), (5, word)))

    def test_enter(self):
        for s, first, six, seven in itertools.product((2, 6, 7), WORDS, FEW_WORDS, FEW_WORDS):
            boxes = boxes_with((2, first), (6, six), (7, seven))
            boxes[s] = first
            self.check(("enter", s), boxes)


class Numbers(RowTest):
    def test_put_and_move(self):
        for number in (-10000, -1, 0, 1, 9999):
            self.check_box(("put", 3, number), [(3, KEY)], 3, number)
        for word in WORDS:
            self.check_box(("move", 3, 4), [(4, word)], 3, word)
            self.check_box(("move", 4, 4), [(4, word)], 4, word)

    def test_sums_and_differences(self):
        for first, second, total in ((3, 4, 7), (9999, 1, -10000), (9999, 9999, -2), (-10000, -1, 9999),
                                     (-10000, -10000, 0), (9999, -10000, -1), (0, -10000, -10000), (9999, 0, 9999)):
            self.check_box(("add", 0, 1, 2), [(1, first), (2, second)], 0, total)
            self.check_box(("add", 1, 1, 2), [(1, first), (2, second)], 1, total)
        for first, second, rest in ((3, 4, -1), (-10000, 1, 9999), (9999, -1, -10000), (0, -10000, -10000),
                                    (-1, -10000, 9999), (9999, -10000, -1), (-10000, 9999, 1), (-10000, -10000, 0)):
            self.check_box(("take", 0, 1, 2), [(1, first), (2, second)], 0, rest)
            self.check_box(("take", 2, 1, 2), [(1, first), (2, second)], 2, rest)
        self.check_box(("add", 0, 0, 0), [(0, 6000)], 0, -8000)
        self.check_box(("take", 0, 0, 0), [(0, 6000)], 0, 0)

    def test_keys_moved(self):
        for at, by, then in ((9, 2, 11), (9, -20, -11), (9999, 1, -10000), (-10000, -1, 9999), (9, 9999, -9992),
                             (9, -10000, -9991), (-10000, -10000, 0), (9, 0, 9)):
            key = ("key", 8, 12, at, "gl")
            self.check_box(("add", 0, 1, 2), [(1, key), (2, by)], 0, ("key", 8, 12, then, "gl"))
            self.check_box(("add", 2, 1, 2), [(1, key), (2, by)], 2, ("key", 8, 12, then, "gl"))
        for at, by, then in ((9, 2, 7), (9, -20, 29), (-10000, 1, 9999), (9999, -1, -10000), (9, -10000, -9991),
                             (0, -10000, -10000), (-1, -10000, 9999), (-10000, -10000, 0), (9, 9, 0)):
            key = ("key", 8, 12, at, "")
            self.check_box(("take", 0, 1, 2), [(1, key), (2, by)], 0, ("key", 8, 12, then, ""))
            self.check_box(("take", 1, 1, 2), [(1, key), (2, by)], 1, ("key", 8, 12, then, ""))

    def test_less(self):
        for first, second, told in ((1, 2, 1), (2, 1, 0), (2, 2, 0), (-10000, 9999, 1), (9999, -10000, 0), (-1, 0, 1)):
            self.check_box(("less", 0, 1, 2), [(1, first), (2, second)], 0, told)
            self.check_box(("less", 2, 1, 2), [(1, first), (2, second)], 2, told)
        self.check_box(("less", 0, 0, 0), [(0, 4)], 0, 0)

    def test_same(self):
        for at, first in enumerate(WORDS):
            for other, second in enumerate(WORDS):
                self.check_box(("same", 0, 1, 2), [(1, first), (2, second)], 0, 1 if at == other else 0)
            self.check_box(("same", 0, 1, 1), [(1, first)], 0, 1)
            self.check_box(("same", 1, 1, 1), [(1, first)], 1, 1)

    def test_same_of_words_unlike_in_one_part_only(self):
        key = ("key", 8, 12, 9, "gs")
        for other in (("key", 7, 12, 9, "gs"), ("key", 8, 13, 9, "gs"), ("key", 8, 12, 8, "gs"), ("key", 8, 12, 9, "g"),
                      ("gate", 1, key), 9, 0, 1):
            self.check_box(("same", 0, 1, 2), [(1, key), (2, other)], 0, 0)
            self.check_box(("same", 0, 1, 2), [(1, other), (2, key)], 0, 0)
        gate = ("gate", 2, key)
        for other in (("gate", 3, key), ("gate", 2, ("key", 8, 12, 9, "g")), ("gate", 2, 0), key, 2, 0):
            self.check_box(("same", 0, 1, 2), [(1, gate), (2, other)], 0, 0)
        self.check_box(("same", 0, 1, 2), [(1, gate), (2, ("gate", 2, ("key", 8, 12, 9, "gs")))], 0, 1)

    def test_is(self):
        for word in WORDS:
            told = 0 if isinstance(word, int) else 1 if word[0] == "key" else 2
            self.check_box(("is", 0, 1), [(1, word)], 0, told)
            self.check_box(("is", 1, 1), [(1, word)], 1, told)

    def test_kind_faults(self):
        for word in ("add", "take"):
            for second in (KEY, GATE):
                self.check_fault("kind", (word, 0, 1, 2), [(1, 5), (2, second)])
                self.check_fault("kind", (word, 0, 1, 2), [(1, KEY), (2, second)])
            for second in (1, KEY, GATE):
                self.check_fault("kind", (word, 0, 1, 2), [(1, GATE), (2, second)])
            self.check_fault("kind", (word, 0, 1, 1), [(1, KEY)])
        for first, second in ((KEY, 1), (1, KEY), (GATE, 1), (1, GATE), (KEY, KEY), (GATE, GATE)):
            self.check_fault("kind", ("less", 0, 1, 2), [(1, first), (2, second)])


class Cells(RowTest):
    def test_get(self):
        for cell, far in ((8, -1), (9, 0), (10, 1), (11, 2)):
            self.check_box(("get", 0, 1, far), [(1, KEY)], 0, cells_with()[cell])
            self.check_box(("get", 1, 1, far), [(1, KEY)], 1, cells_with()[cell])
            self.check_box(("get", 0, 1, 0), [(1, ("key", 8, 12, cell, "gh"))], 0, cells_with()[cell])
        for far in (-2, 3, 63, -63):
            self.check_fault("beyond", ("get", 0, 1, far), [(1, KEY)])
        for at in (7, 12, -1, 64, 9999, -10000):
            self.check_fault("beyond", ("get", 0, 1, 0), [(1, ("key", 8, 12, at, "gh"))])

    def test_get_of_the_first_and_the_last_cell_of_all(self):
        cells = cells_with((0, 17), (63, 18))
        whole = ("key", 0, 64, 0, "g")
        self.check_box(("get", 0, 1, 0), [(1, whole)], 0, 17, cells)
        self.check_box(("get", 0, 1, 63), [(1, whole)], 0, 18, cells)
        self.check_box(("get", 0, 1, -63), [(1, ("key", 0, 64, 63, "g"))], 0, 17, cells)
        self.check_box(("get", 0, 1, 63), [(1, ("key", 0, 64, -63, "g"))], 0, 17, cells)
        self.check_fault("beyond", ("get", 0, 1, -1), [(1, whole)], cells)
        self.check_fault("beyond", ("get", 0, 1, 1), [(1, ("key", 0, 64, 63, "g"))], cells)
        for at, far in ((9999, 1), (9999, 63), (-10000, -1), (-10000, -63), (-10000, 63)):
            self.check_fault("beyond", ("get", 0, 1, far), [(1, ("key", 0, 64, at, "g"))], cells)

    def test_get_without_the_right_to_keys_and_gates(self):
        for rights, lets in (("g", False), ("gls", False), ("gh", True), ("ghls", True)):
            key = ("key", 8, 12, 8, rights)
            self.check_box(("get", 0, 1, 0), [(1, key)], 0, -7)
            self.check_box(("get", 0, 1, 1), [(1, key)], 0, KEY if lets else 0)
            self.check_box(("get", 0, 1, 2), [(1, key)], 0, ("gate", 4, KEY) if lets else 0)

    def test_faults_of_get(self):
        for word in (0, 9, GATE, ("gate", 1, KEY)):
            self.check_fault("kind", ("get", 0, 1, 0), [(1, word)])
        for rights in ("", "h", "hls", "s"):
            self.check_fault("right", ("get", 0, 1, 0), [(1, ("key", 8, 12, 9, rights))])
            self.check_fault("right", ("get", 0, 1, 9), [(1, ("key", 8, 12, 9, rights))])

    def check_set(self, key, far, cell, word, same_box=False):
        boxes = boxes_with((1, key), (2, word))
        row = ("set", 1, far, 1 if same_box else 2)
        machine = Machine(program_with(row), 0, cells_with(), boxes)
        machine.step()
        self.assertEqual(machine.cells(), cells_with((cell, key if same_box else word)))
        self.assertEqual((machine.boxes(), machine.said(), machine.ended()), (boxes, [], None))
        look = ("key", 0, 64, 0, "gh")
        program = (row, ("get", 3, 4, cell), ("same", 3, 3, 5), ("say", 3), END)
        boxes[4:6] = [look, key if same_box else word]
        self.assertEqual(run(program, 0, cells_with(), boxes, 9), ([1], ("end",), 5))

    def test_set(self):
        for word in WORDS:
            self.check_set(("key", 8, 12, 9, "hs"), 0, 9, word)
        for cell, far in ((8, -1), (11, 2)):
            self.check_set(("key", 8, 12, 9, "s"), far, cell, 33)
            self.check_set(("key", 8, 12, cell, "s"), 0, cell, 33)
        self.check_set(("key", 0, 64, 0, "s"), 63, 63, -10000)
        self.check_set(("key", 0, 64, 63, "s"), -63, 0, 9999)
        self.check_set(("key", 0, 64, 126, "s"), -63, 63, 1)
        self.check_set(("key", 8, 12, 9, "hs"), 0, 9, 0, same_box=True)

    def test_faults_of_set_in_their_turn(self):
        for word in (0, 9, GATE, ("gate", 1, KEY)):
            for value in (1, KEY, GATE):
                self.check_fault("kind", ("set", 1, 0, 2), [(1, word), (2, value)])
        for value in (1, KEY, GATE):
            for rights in ("", "g", "ghl", "h"):
                for far in (0, 9):
                    self.check_fault("right", ("set", 1, far, 2), [(1, ("key", 8, 12, 9, rights)), (2, value)])
            for rights in ("s", "ghls"):
                for far in (-2, 3, 63, -63):
                    self.check_fault("beyond", ("set", 1, far, 2), [(1, ("key", 8, 12, 9, rights)), (2, value)])
                for at in (7, 12, 9999, -10000):
                    self.check_fault("beyond", ("set", 1, 0, 2), [(1, ("key", 8, 12, at, rights)), (2, value)])
        for value in (KEY, GATE, ("gate", 1, KEY), ("key", 0, 1, 0, "")):
            for rights in ("s", "gls"):
                self.check_fault("right", ("set", 1, 0, 2), [(1, ("key", 8, 12, 9, rights)), (2, value)])
        self.check_fault("right", ("set", 1, 0, 1), [(1, ("key", 8, 12, 9, "s"))])

    def test_set_of_numbers_needs_no_right_to_keys(self):
        self.check_set(("key", 8, 12, 9, "s"), 0, 9, 0)
        self.check_set(("key", 8, 12, 9, "gls"), 0, 9, -10000)


class Keys(RowTest):
    def test_narrow(self):
        for at, many in ((8, 1), (8, 4), (9, 1), (9, 3), (11, 1)):
            key = ("key", 8, 12, at, "gl")
            told = ("key", at, at + many, at, "gl")
            self.check_box(("narrow", 0, 1, 2), [(1, key), (2, many)], 0, told)
            self.check_box(("narrow", 1, 1, 2), [(1, key), (2, many)], 1, told)
            self.check_box(("narrow", 2, 1, 2), [(1, key), (2, many)], 2, told)
        self.check_box(("narrow", 0, 1, 2), [(1, ("key", 0, 64, 0, "")), (2, 64)], 0, ("key", 0, 64, 0, ""))

    def test_narrow_beyond(self):
        for at, many in ((8, 0), (8, -1), (8, 5), (9, 0), (9, 4), (11, 2), (12, 1), (7, 1), (7, 2), (12, 0), (12, -1),
                         (9, -10000), (9, 9999), (9999, 1), (-10000, 1), (-10000, 9999), (13, -2), (64, 1)):
            self.check_fault("beyond", ("narrow", 0, 1, 2), [(1, ("key", 8, 12, at, "gl")), (2, many)])

    def test_narrow_kinds(self):
        for first in (0, 9, GATE):
            for second in (1, 0, KEY, GATE):
                self.check_fault("kind", ("narrow", 0, 1, 2), [(1, first), (2, second)])
        for second in (KEY, GATE):
            self.check_fault("kind", ("narrow", 0, 1, 2), [(1, KEY), (2, second)])
            self.check_fault("kind", ("narrow", 0, 1, 2), [(1, ("key", 8, 12, 7, "g")), (2, second)])
        self.check_fault("kind", ("narrow", 0, 1, 1), [(1, KEY)])

    def test_fewer(self):
        for rights, told, left in (("ghls", "gs", "gs"), ("gs", "ghls", "gs"), ("gh", "ls", ""), ("ghls", "", ""),
                                   ("", "ghls", ""), ("hl", "gl", "l"), ("ghls", "ghls", "ghls")):
            key = ("key", 8, 12, -400, rights)
            self.check_box(("fewer", 0, 1, told), [(1, key)], 0, ("key", 8, 12, -400, left))
            self.check_box(("fewer", 1, 1, told), [(1, key)], 1, ("key", 8, 12, -400, left))
        for word in (0, 9, GATE, ("gate", 1, KEY)):
            self.check_fault("kind", ("fewer", 0, 1, "g"), [(1, word)])


class Gates(RowTest):
    def test_gate(self):
        for word in (0, -10000, 9999, KEY, ("key", 8, 12, 9, "")):
            for row in (0, 1, 4, 5):
                self.check_box(("gate", 0, 1, row), [(1, word)], 0, ("gate", row, word))
                self.check_box(("gate", 1, 1, row), [(1, word)], 1, ("gate", row, word))
        for word in (GATE, ("gate", 0, KEY)):
            self.check_fault("kind", ("gate", 0, 1, 2), [(1, word)])

    def check_enter(self, gate, seven, s=2):
        boxes = boxes_with((7, seven), (s, gate))
        machine = Machine((("enter", s), ("say", 0), END, END, END), 0, cells_with(), boxes)
        machine.step()
        after = list(boxes)
        after[6:8] = [("gate", 1, seven), gate[2]]
        self.assertEqual(machine.boxes(), after)
        self.assertEqual((machine.cells(), machine.said()), (cells_with(), []))
        if gate[1] == 5:
            self.assertEqual(machine.ended(), ("end",))
        else:
            self.assertEqual(machine.ended(), None)
            self.assertEqual(machine.step(), gate[1])

    def test_enter(self):
        for s in (2, 6):
            for word in (3, KEY):
                for seven in (0, 80, KEY, ("key", 1, 2, 3, "l")):
                    for row in (0, 1, 4, 5):
                        self.check_enter(("gate", row, word), seven, s)

    def test_faults_of_enter(self):
        for word in (0, 5, KEY):
            self.check_fault("kind", ("enter", 2), [(2, word)])
            self.check_fault("kind", ("enter", 2), [(2, word), (7, GATE)])
        self.check_fault("kind", ("enter", 2), [(2, GATE), (7, GATE)])
        self.check_fault("kind", ("enter", 6), [(6, GATE), (7, ("gate", 0, 0))])
        self.check_fault("kind", ("enter", 7), [(7, GATE)])
        self.check_fault("kind", ("enter", 7), [(7, KEY)])

    def test_enter_as_the_last_row_and_back(self):
        program = (("go", 2), ("say", 7), ("gate", 5, 4, 1), ("put", 7, 3), ("enter", 5))
        boxes = boxes_with((4, 44))
        machine = Machine(program, 0, cells_with(), boxes)
        self.assertEqual([machine.step() for _ in range(5)], [0, 2, 3, 4, 1])
        self.assertEqual(machine.boxes()[5:], [("gate", 1, 44), ("gate", 5, 3), 44])
        self.assertEqual(machine.said(), [44])
        # The gate in box 6 leads behind the last row.
        program = (("gate", 5, 4, 2), ("go", 3), ("enter", 6), ("enter", 5))
        self.assertEqual(run(program, 0, cells_with(), boxes, 9), ([], ("end",), 4))

    def test_there_and_back(self):
        program = (("gate", 1, 0, 5), ("enter", 1), ("say", 7), ("move", 1, 6), END, ("say", 7), ("enter", 6))
        boxes = boxes_with((0, 11), (7, 22))
        self.assertEqual(run(program, 0, cells_with(), boxes, 20), ([11, 22], ("end",), 7))


class Ways(RowTest):
    def test_say(self):
        for number in (-10000, -1, 0, 9999):
            machine = Machine(program_with(("say", 1)), 0, cells_with(), boxes_with((1, number)))
            machine.step()
            self.assertEqual(machine.said(), [number])
            self.assertEqual((machine.boxes(), machine.cells()), (boxes_with((1, number)), cells_with()))
        for word in (KEY, GATE, ("gate", 0, KEY)):
            self.check_fault("kind", ("say", 1), [(1, word)])

    def way(self, row, *pairs):
        machine = Machine((("go", 2), END, row, END, END), 0, cells_with(), boxes_with(*pairs))
        machine.step()
        self.assertEqual(machine.step(), 2)
        self.assertEqual((machine.boxes(), machine.cells()), (boxes_with(*pairs), cells_with()))
        self.assertEqual(machine.said(), [])
        return machine.ended() or machine.step()

    def test_go_and_end(self):
        for to in range(5):
            self.assertEqual(self.way(("go", to)), to)
        self.assertEqual(self.way(END), ("end",))

    def test_if_with_all_kinds_of_words(self):
        for word in WORDS:
            for to in range(5):
                self.assertEqual(self.way(("if", 1, to), (1, word)), 3 if word == 0 else to, word)

    def test_behind_the_last_row(self):
        for row in (("put", 0, 1), ("set", 1, 0, 2), ("say", 2), ("if", 3, 0), ("room", 4), ("same", 0, 1, 1)):
            boxes = boxes_with((1, KEY), (2, 5), (3, 0))
            machine = Machine((row,), 0, [0] * 64, boxes)
            self.assertEqual((machine.step(), machine.ended()), (0, ("end",)))
            self.assertEqual(run((row,), 0, [0] * 64, boxes, 9)[1:], (("end",), 1))

    def test_what_was_said_ahead_of_a_fault_stays(self):
        program = (("say", 0), ("say", 1), ("put", 0, 5), ("say", 2), ("say", 0))
        boxes = boxes_with((2, KEY))
        self.assertEqual(run(program, 0, cells_with(), boxes, 9), ([10, 20], ("fault", "kind", 3), 4))
        machine = Machine(program, 0, cells_with(), boxes)
        self.assertEqual([machine.step() for _ in range(4)], [0, 1, 2, 3])
        self.assertEqual((machine.said(), machine.ended()), ([10, 20], ("fault", "kind", 3)))
        self.assertEqual(machine.boxes(), boxes_with((0, 5), (2, KEY)))


if __name__ == "__main__":
    unittest.main()
