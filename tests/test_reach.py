"""Promise [12]: which cells words reach, and that no program touches others."""

import itertools
import random
import unittest

from chance import seldom_key, some_begins, some_explored, some_number, some_word
from reached import fewest_keys, key, reached, touch_of
from refusing import Refusing
from tagmachine.errors import BadRooms, BadWord
from tagmachine.machine import Machine
from tagmachine.plain import run
from tagmachine.reach import reach

BOXES = [0] * 8
ALL_RIGHTS = ["".join(some) for many in range(5) for some in itertools.combinations("ghls", many)]


def held(words, many=64):
    """Tell so many cells that hold 0, but for some words."""
    cells = [0] * many
    for cell, word in words.items():
        cells[cell] = word
    return cells


def in_box(word, box=0):
    return [0] * box + [word] + [0] * (7 - box)


class Keys(unittest.TestCase):
    def told(self, expected, cells, boxes, gates=False, rooms=0, rows=60):
        self.assertEqual(reach(rows, rooms, cells, boxes, gates), expected)
        self.assertEqual(reached(cells, boxes, gates), expected)

    def test_no_key_at_all(self):
        for gates in (True, False):
            for rooms in (0, 1, 12):
                cells = [5] * (64 - 4 * rooms)
                self.told([], cells, BOXES, gates, rooms)
                self.told([], cells, [("gate", 0, 5)] * 8, gates, rooms)
                # Keys that no box reaches.
                self.told([], [key(0, 16, "ghls")] * len(cells), BOXES, gates, rooms)

    def test_the_sixteen_texts_of_rights(self):
        self.assertEqual(len(set(ALL_RIGHTS)), 16)
        for rights in ALL_RIGHTS:
            letters = {(False, False): "", (True, False): "g", (False, True): "s", (True, True): "gs"}
            letters = letters["g" in rights, "s" in rights]
            own = [(cell, letters) for cell in (3, 4)] if letters else []
            for gates in (True, False):
                self.told(own, held({}), in_box(key(3, 5, rights)), gates)
                further = [(9, "s")] if "g" in rights and "h" in rights else []
                self.told(own + further, held({4: key(9, 10, "s")}), in_box(key(3, 5, rights), 7), gates)

    def test_each_box(self):
        for box in range(8):
            self.told([(6, "gs")], held({}), in_box(key(6, 7, "gls"), box))

    def test_first_last_and_all_cells(self):
        for rooms in range(13):
            many = 64 - 4 * rooms
            cells = held({}, many)
            self.told([(0, "g")], cells, in_box(key(0, 1, "g")), rooms=rooms)
            self.told([(many - 1, "s")], cells, in_box(key(many - 1, many, "s")), rooms=rooms)
            self.told([(cell, "gs") for cell in range(many)], cells, in_box(key(0, many, "gs")), rooms=rooms)

    def test_at_outside_the_cells(self):
        for at in (-10000, -1, 0, 1, 2, 3, 63, 64, 9999):
            self.told([(2, "g"), (3, "g"), (7, "s")], held({3: key(7, 8, "s", at)}), in_box(key(2, 4, "gh", at)))

    def test_chains(self):
        cells = held({0: key(1, 2, "gh"), 1: key(2, 3, "gh"), 2: key(60, 64, "s"), 62: key(30, 31, "g")})
        self.told([(0, "g"), (1, "g"), (2, "g"), (60, "s"), (61, "s"), (62, "s"), (63, "s")], cells,
                  in_box(key(0, 1, "gh")))
        whole = held({cell: key(cell + 1, cell + 2, "gh") for cell in range(63)})
        self.told([(cell, "g") for cell in range(64)], whole, in_box(key(0, 1, "gh")))
        self.told([(cell, "g") for cell in range(50, 64)], whole, in_box(key(50, 51, "gh")))

    def test_rings_and_keys_to_their_own_cells(self):
        self.told([(5, "g")], held({5: key(5, 6, "gh")}), in_box(key(5, 6, "gh")))
        self.told([(5, "gs")], held({5: key(5, 6, "s")}), in_box(key(5, 6, "gh")))
        ring = held({1: key(2, 3, "gh"), 2: key(9, 10, "gh"), 9: key(1, 2, "ghs")})
        self.told([(1, "gs"), (2, "g"), (9, "g")], ring, in_box(key(1, 2, "gh")))
        self.told([(1, "gs"), (2, "g"), (9, "g")], ring, in_box(key(9, 10, "gh")))
        self.told([(1, "g")], ring, in_box(key(1, 2, "g")))

    def test_g_and_h_of_two_keys_go_on_to_nothing(self):
        cells = held({4: key(40, 41, "g")})
        self.told([(4, "g")], cells, [key(4, 5, "g"), key(4, 5, "h")] + [0] * 6)
        self.told([(4, "gs")], cells, [key(4, 5, "gs"), key(4, 5, "hls")] + [0] * 6)
        self.told([(4, "g"), (40, "g")], cells, [key(4, 5, "g"), key(4, 5, "gh")] + [0] * 6)

    def test_letters_of_several_keys(self):
        self.told([(4, "gs")], held({}), [key(4, 5, "g"), key(4, 5, "s")] + [0] * 6)
        self.told([(4, "gs")], held({}), [key(4, 5, "s"), key(4, 5, "g")] + [0] * 6)
        self.told([(3, "s"), (4, "gs"), (5, "g")], held({}), [0] * 6 + [key(4, 6, "g"), key(3, 5, "s")])
        self.told([(2, "g"), (4, "gs")], held({2: key(4, 5, "s")}), [key(4, 5, "g"), key(2, 3, "gh")] + [0] * 6)

    def test_the_same_key_with_fewer_and_with_more_rights(self):
        for first, second in (("g", "ghs"), ("ghs", "g")):
            cells = held({1: key(8, 9, first), 2: key(8, 9, second), 8: key(20, 21, "s")})
            self.told([(1, "g"), (2, "g"), (8, "gs"), (20, "s")], cells, in_box(key(1, 3, "gh")))
            self.told([(8, "gs"), (20, "s")], cells, [key(8, 9, first), key(8, 9, second)] + [0] * 6)

    def test_gates_in_boxes(self):
        for row in (0, 5, 60):
            boxes = in_box(("gate", row, key(4, 5, "gh")))
            cells = held({4: key(9, 10, "s")})
            self.told([(4, "g"), (9, "s")], cells, boxes, True)
            self.told([], cells, boxes, False)
            self.told([], cells, in_box(("gate", row, 4)), True)
            self.told([(9, "s")], held({}), [("gate", row, key(4, 5, "g")), key(9, 10, "s")] + [0] * 6, False)

    def test_gates_in_cells(self):
        cells = held({1: ("gate", 0, key(4, 5, "gh")), 2: ("gate", 3, 4), 3: key(5, 6, "g"),
                      4: ("gate", 9, key(6, 7, "s"))})
        boxes = in_box(key(1, 4, "gh"))
        self.told([(1, "g"), (2, "g"), (3, "g"), (4, "g"), (5, "g"), (6, "s")], cells, boxes, True)
        self.told([(1, "g"), (2, "g"), (3, "g"), (5, "g")], cells, boxes, False)
        # Without h no gate is got.
        self.told([(1, "g"), (2, "g"), (3, "g")], cells, in_box(key(1, 4, "g")), True)

    def test_a_gate_and_a_key_in_turn(self):
        cells = held({1: ("gate", 0, key(2, 3, "gh")), 2: key(3, 4, "gh"), 3: ("gate", 0, key(4, 5, "s"))})
        self.told([(1, "g"), (2, "g"), (3, "g"), (4, "s")], cells, in_box(key(1, 2, "gh")), True)
        self.told([(1, "g")], cells, in_box(key(1, 2, "gh")), False)

    def test_words_by_chance(self):
        chance = random.Random(1201)
        for _ in range(300):
            rows, rooms = chance.choice((1, 30, 60)), chance.choice((0, 1, 5, 12))
            choose = chance.choice((seldom_key, seldom_key, some_word))
            cells = [choose(chance, rows) for _ in range(64 - 4 * rooms)]
            boxes = [choose(chance, rows) for _ in range(8)]
            for gates in (True, False):
                self.told(reached(cells, boxes, gates), cells, boxes, gates, rooms, rows)

    def test_kinds_of_what_is_told(self):
        told = reach(1, 0, held({}), in_box(key(4, 6, "gs")), False)
        self.assertIs(type(told), list)
        self.assertEqual([type(part) for part in told], [tuple, tuple])
        self.assertEqual([[type(value) for value in part] for part in told], [[int, str], [int, str]])

    def test_handed_in_and_told(self):
        cells, boxes = held({4: key(9, 10, "s")}), in_box(key(4, 5, "gh"))
        told = reach(1, 0, cells, boxes, True)
        self.assertEqual((cells, boxes), (held({4: key(9, 10, "s")}), in_box(key(4, 5, "gh"))))
        told.append(9)
        told[0] = None
        self.assertEqual(reach(1, 0, cells, boxes, True), [(4, "g"), (9, "s")])
        again = reach(1, 0, cells, boxes, True)
        cells[4], boxes[0] = 0, 0
        self.assertEqual(again, [(4, "g"), (9, "s")])
        self.assertEqual(reach(1, 0, cells, boxes, True), [])


class Programs(unittest.TestCase):
    """Whatever program runs, it touches no other cells but lent rooms', and others' words are nothing to it."""

    def touches(self, begin):
        """Step through a program; tell the cells that it touches, but rooms', with the letters, and its machine."""
        machine, touches = Machine(*begin.told()), set()
        for _ in range(200):
            if machine.ended() is not None:
                break
            boxes, lent, at = machine.boxes(), machine.rooms()[0], machine.step()
            touch = touch_of(begin.program[at], boxes) if machine.ended() in (None, ("end",)) else None
            if touch is not None and touch[0] >= len(begin.cells):
                self.assertIn(touch[0] - touch[0] % 4, lent)
            elif touch is not None:
                touches.add(touch)
        return touches, machine

    def check(self, begins, gates):
        """See what programs touch; tell how many touches took several keys or a gate, and how many cells are spared."""
        further = spared = 0
        for begin in begins:
            self.assertTrue(gates or "enter" not in [row[0] for row in begin.program])
            told = dict(reach(len(begin.program), begin.rooms, list(begin.cells), list(begin.boxes), gates))
            touches, machine = self.touches(begin)
            for cell, letter in touches:
                self.assertIn(letter, told.get(cell, ""), (begin.told(), cell))
            for cell, word in enumerate(begin.cells):
                if "s" not in told.get(cell, ""):
                    self.assertEqual(machine.cells()[cell], word)
            fewest = fewest_keys(begin.cells, begin.boxes, False)
            further += sum(fewest.get(touch, 100) > 1 for touch in touches)
            spared += sum(cell not in told for cell in range(16))
        return further, spared

    # All rows but enter, those most often by which cells are come to.
    WORDS = ("get get get get get get set set move add take put".split() * 5 +
             "less same is narrow fewer gate room room shut say go if end".split())

    def explored(self, seed, many, words):
        chance = random.Random(seed)
        for _ in range(many):
            yield some_explored(chance, chance.choice((20, 60)), chance.choice((0, 1, 2, 12)), words, seldom_key)

    def test_programs_that_enter_gates(self):
        words = self.WORDS + ["enter"] * 20
        further, spared = self.check(self.explored(1202, 250, words), True)
        self.assertGreater(further, 60)
        self.assertGreater(spared, 1000)
        self.check(some_begins(1203, 50), True)

    def test_programs_that_enter_none(self):
        further, spared = self.check(self.explored(1204, 250, self.WORDS), False)
        self.assertGreater(further, 20)
        self.assertGreater(spared, 1000)
        self.check(some_begins(1205, 50, self.WORDS), False)

    def test_other_words_in_other_cells(self):
        chance = random.Random(1206)
        for gates, words in ((True, self.WORDS + ["enter"] * 20), (False, self.WORDS)):
            for begin in self.explored(1207, 100, words):
                rows = len(begin.program)
                told = dict(reach(rows, begin.rooms, list(begin.cells), list(begin.boxes), gates))
                expected = run(*begin.told(), 300)
                for choose in (lambda *_: some_number(chance), some_word, lambda *_: key(0, 16, "ghls")):
                    cells = [word if cell in told else choose(chance, rows) for cell, word in enumerate(begin.cells)]
                    self.assertEqual(run(begin.program, begin.rooms, cells, list(begin.boxes), 300), expected)
                    self.assertEqual(dict(reach(rows, begin.rooms, cells, list(begin.boxes), gates)), told)

    def test_a_program_that_goes_through_gates(self):
        """What is told with True may be touched: by a gate in a box, and by one in a cell."""
        cells = held({4: ("gate", 3, key(9, 10, "s"))})
        boxes = in_box(("gate", 1, key(4, 5, "gh", 4)))
        program = (("enter", 0), ("get", 0, 7, 0), ("enter", 0), ("put", 1, 9), ("add", 7, 7, 1), ("set", 7, 0, 1))
        machine = Machine(program, 0, cells, boxes)
        while machine.ended() is None:
            machine.step()
        self.assertEqual((machine.ended(), machine.cells()[9]), (("end",), 9))
        self.assertEqual(reach(6, 0, cells, boxes, True), [(4, "g"), (9, "s")])


class Refusals(Refusing):
    def test_rooms(self):
        for rooms in (-1, 13, True, False, "1", (), (1,)):
            self.refused(BadRooms, {}, reach, 1, rooms, [0] * 64, BOXES, False)

    def test_words(self):
        for rooms, cells, boxes, place in (
                (0, [0] * 63, BOXES, 63), (0, [0] * 65, BOXES, 64), (1, [0] * 61, BOXES, 60), (12, [], BOXES, 0),
                (0, held({9: 10000}), BOXES, 9), (0, held({9: True}), BOXES, 9), (0, held({0: "g"}), BOXES, 0),
                (1, held({5: key(60, 61, "g")}, 60), BOXES, 5), (1, [0] * 60, in_box(key(59, 61, "g"), 7), 67),
                (0, [0] * 64, [0] * 7, 71), (0, [0] * 64, [0] * 9, 72), (0, [0] * 64, [0, -10001] + [0] * 6, 65),
                (0, [0] * 64, in_box(key(5, 5, "g")), 64), (0, [0] * 64, in_box(key(5, 6, "hg")), 64),
                (0, held({63: ("gate", 0, ("gate", 0, 0))}), BOXES, 63)):
            for gates in (True, False):
                self.refused(BadWord, {"place": place}, reach, 1, rooms, cells, boxes, gates)

    def test_gates_beyond_as_many_rows_as_told(self):
        for rows in (1, 2, 30, 60):
            gate, beyond = ("gate", rows, 5), ("gate", rows + 1, 5)
            self.assertEqual(reach(rows, 0, held({9: gate}), in_box(gate), True), [])
            self.refused(BadWord, {"place": 9}, reach, rows, 0, held({9: beyond}), in_box(beyond), True)
            self.refused(BadWord, {"place": 66}, reach, rows, 0, held({9: gate}), in_box(beyond, 2), False)

    def test_the_first_is_refused_first(self):
        self.refused(BadRooms, {}, reach, 1, 13, [True], [True], False)
        self.refused(BadWord, {"place": 0}, reach, 1, 0, [True], [True], False)
        self.refused(BadWord, {"place": 1}, reach, 1, 0, [0], [True], False)
        self.refused(BadWord, {"place": 64}, reach, 1, 0, [0] * 64, [True], False)


if __name__ == "__main__":
    unittest.main()
