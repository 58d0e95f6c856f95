"""Promise [8]: what run tells; and [1] to [4] once more, as far as run, run_swept and Machine are handed things."""

import unittest

from chance import some_begins
from refusing import Refusing
from tagmachine.errors import BadFuel, BadProgram, BadRooms, BadWord, Over
from tagmachine.machine import Machine, run_swept
from tagmachine.plain import run

END = ("end",)
CELLS = [0] * 64
BOXES = [0] * 8
LOOP = (("put", 0, 1), ("add", 1, 1, 0), ("say", 1), ("go", 1))


class Fuel(unittest.TestCase):
    def test_as_many_rows_as_fuel_tells(self):
        for fuel, said in ((0, []), (1, []), (2, []), (3, [1]), (5, [1]), (6, [1, 2]), (8, [1, 2]), (9, [1, 2, 3])):
            self.assertEqual(run(LOOP, 0, CELLS, BOXES, fuel), (said, ("long",), fuel))
        told = run(LOOP, 0, CELLS, BOXES, 3000)
        self.assertEqual(told, (list(range(1, 1001)), ("long",), 3000))

    def test_an_end_row(self):
        program = (("say", 0), ("say", 0), END, ("say", 0))
        self.assertEqual(run(program, 0, CELLS, BOXES, 0), ([], ("long",), 0))
        self.assertEqual(run(program, 0, CELLS, BOXES, 2), ([0, 0], ("long",), 2))
        for fuel in (3, 4, 3000):
            self.assertEqual(run(program, 0, CELLS, BOXES, fuel), ([0, 0], ("end",), 3))
        self.assertEqual(run((END,), 0, CELLS, BOXES, 0), ([], ("long",), 0))
        self.assertEqual(run((END,), 0, CELLS, BOXES, 1), ([], ("end",), 1))

    def test_behind_the_last_row(self):
        program = (("say", 0), ("say", 0))
        self.assertEqual(run(program, 0, CELLS, BOXES, 1), ([0], ("long",), 1))
        for fuel in (2, 3, 3000):
            self.assertEqual(run(program, 0, CELLS, BOXES, fuel), ([0, 0], ("end",), 2))

    def test_a_gate_to_as_many_rows_as_there_are(self):
        program = (("gate", 1, 0, 4), ("say", 0), ("enter", 1), ("say", 0))
        self.assertEqual(run(program, 0, CELLS, BOXES, 2), ([0], ("long",), 2))
        for fuel in (3, 4, 3000):
            self.assertEqual(run(program, 0, CELLS, BOXES, fuel), ([0], ("end",), 3))
        # One that is handed in.
        boxes = [("gate", 2, 5)] + [0] * 7
        self.assertEqual(run((("enter", 0), ("say", 0)), 0, CELLS, boxes, 9), ([], ("end",), 1))

    def test_a_fault(self):
        program = (("say", 0), ("go", 2), ("shut", 0), END)
        self.assertEqual(run(program, 0, CELLS, BOXES, 2), ([0], ("long",), 2))
        for fuel in (3, 4, 3000):
            self.assertEqual(run(program, 0, CELLS, BOXES, fuel), ([0], ("fault", "kind", 2), 3))

    def test_kinds_of_what_is_told(self):
        for told in (run(LOOP, 0, CELLS, BOXES, 9), run_swept(LOOP, 0, CELLS, BOXES, 9, [])):
            self.assertIs(type(told), tuple)
            self.assertEqual([type(part) for part in told], [list, tuple, int])

    def test_programs_by_chance(self):
        for begin in some_begins(81, 150):
            for fuel in (0, 1, 7, 60, 400):
                self.assertEqual(run(*begin.told(), fuel), begin.model().run(fuel), begin.program)


class Refusals(Refusing):
    def by_all(self, error, values, program, rooms, cells, boxes):
        """See what is refused of a beginning by each that is handed one; fuel and sweeps come behind."""
        for fuel in (9, -1):
            self.refused(error, values, run, program, rooms, cells, boxes, fuel)
            self.refused(error, values, run_swept, program, rooms, cells, boxes, fuel, [1])
        self.refused(error, values, Machine, program, rooms, cells, boxes)

    def test_programs(self):
        for row, program in ((0, ()), (60, (END,) * 61), (60, (END,) * 70), (1, (END, ("go", 2))),
                             (0, (("put", 8, 1), ())), (2, (END, END, ("say", True))), (0, (("if", 0, 1),)),
                             (0, (("put", 0, 10000),)),
                             (0, (("get", 0, 0, 64),)), (0, (("fewer", 0, 0, "sg"),)), (0, (("gate", 0, 0, 2),)),
                             (1, (END, "end")), (0, (("end", 0),)), (0, (("jump", 0),))):
            self.by_all(BadProgram, {"row": row}, program, 0, CELLS, BOXES)

    def test_sixty_rows(self):
        program = (("say", 0),) * 60
        self.assertEqual(run(program, 0, CELLS, BOXES, 60), ([0] * 60, ("end",), 60))
        self.assertEqual(run_swept(program, 0, CELLS, BOXES, 60, []), ([0] * 60, ("end",), 60))

    def test_rooms(self):
        for rooms in (-1, 13, 100, True, False, "1", (), (1,)):
            self.by_all(BadRooms, {}, (END,), rooms, CELLS, BOXES)
        for rooms in range(13):
            self.assertEqual(run((END,), rooms, [0] * (64 - 4 * rooms), BOXES, 9), ([], ("end",), 1))

    def test_words(self):
        key = ("key", 0, 61, 0, "")
        for rooms, cells, boxes, place in (
                (0, [0] * 63, BOXES, 63), (0, [0] * 65, BOXES, 64), (1, [0] * 64, BOXES, 60), (0, [], [], 0),
                (0, [0] * 5 + [True] + [0] * 58, BOXES, 5), (0, [0] * 5 + [10000] + [0] * 58, BOXES, 5),
                (1, [0] * 9 + [key] + [0] * 50, BOXES, 9), (1, [0] * 60, [0] * 7 + [key], 67),
                (0, CELLS, [0] * 7, 71), (0, CELLS, [0] * 9, 72), (0, CELLS, [0, -10001, 0, 0, 0, 0, 0, 0], 65),
                (12, [0] * 16, [("gate", 2, 0)] + [0] * 7, 16), (0, [("gate", 0, ("gate", 0, 0))], BOXES, 0),
                (12, [0] * 16, [("key", 15, 17, 0, "g")] + [0] * 7, 16), (0, CELLS, [("key", 5, 5, 0, "g")] * 8, 64)):
            self.by_all(BadWord, {"place": place}, (END,), rooms, cells, boxes)

    def test_fuel(self):
        for fuel in (-1, 3001, 100000, True, False, "5", (), (5,)):
            self.refused(BadFuel, {}, run, (END,), 0, CELLS, BOXES, fuel)
            self.refused(BadFuel, {}, run_swept, (END,), 0, CELLS, BOXES, fuel, [])
        for fuel in (0, 3000):
            run((END,), 0, CELLS, BOXES, fuel)
            run_swept((END,), 0, CELLS, BOXES, fuel, [])

    def test_what_is_handed_in_first_is_refused_first(self):
        bad_program, bad_cells, bad_boxes = (END, ("go", 9)), [0] * 63 + [10000], [0] * 7 + [True]
        self.by_all(BadProgram, {"row": 1}, bad_program, 13, bad_cells, bad_boxes)
        self.by_all(BadRooms, {}, (END,), 13, bad_cells, bad_boxes)
        self.by_all(BadWord, {"place": 63}, (END,), 0, bad_cells, bad_boxes)
        self.by_all(BadWord, {"place": 71}, (END,), 0, CELLS, bad_boxes)

    def test_over(self):
        machine = Machine((END,), 0, CELLS, BOXES)
        machine.step()
        self.refused(Over, {}, machine.step)


class HandedIn(unittest.TestCase):
    PROGRAM = (("room", 0), ("put", 1, 5), ("set", 0, 0, 1), ("set", 2, 0, 1), ("say", 1), ("shut", 0), ("room", 0))

    def begin(self):
        return (self.PROGRAM, 1, [0] * 60, [1, 2, ("key", 0, 60, 0, "gs"), 0, 0, 0, 0, 0])

    def test_nothing_handed_in_is_changed(self):
        begin = self.begin()
        sweeps = [1, 2, 3, 100]
        run(*begin, 9)
        run_swept(*begin, 9, sweeps)
        machine = Machine(*begin)
        while machine.ended() is None:
            machine.step()
            machine.sweep(7)
        self.assertEqual((begin, sweeps), (self.begin(), [1, 2, 3, 100]))

    def test_lists_handed_in_may_be_changed_later(self):
        program, rooms, cells, boxes = self.begin()
        machine = Machine(program, rooms, cells, boxes)
        cells[5] = 77
        boxes[3] = 78
        del cells[20:]
        boxes.clear()
        self.assertEqual(machine.cells(), [0] * 64)
        self.assertEqual(machine.boxes(), self.begin()[3])
        while machine.ended() is None:
            machine.step()
        self.assertEqual(machine.cells(), [5] + [0] * 63)

    def test_what_is_told_may_be_changed(self):
        for call in (lambda: run(*self.begin(), 9), lambda: run_swept(*self.begin(), 9, [5])):
            told = call()
            told[0].append(99)
            self.assertEqual(call(), ([5], ("end",), 7))

    def test_asked_again_the_same_is_told(self):
        for begin in some_begins(82, 30):
            self.assertEqual(run(*begin.told(), 200), run(*begin.told(), 200))
            self.assertEqual(run_swept(*begin.told(), 200, [3] * 9), run_swept(*begin.told(), 200, [3] * 9))


if __name__ == "__main__":
    unittest.main()
