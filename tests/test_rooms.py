"""Promises [6] and [7]: rooms that are lent, shut, and lent anew, told by run and by a Machine."""

import unittest

from tagmachine.machine import Machine, run_swept
from tagmachine.plain import run

END = ("end",)
WHOLE = ("key", 0, 16, 0, "ghls")


def boxes_with(*pairs):
    boxes = [0] * 8
    for box, word in pairs:
        boxes[box] = word
    return boxes


class RoomTest(unittest.TestCase):
    def says(self, said, program, rooms, boxes=None, end=("end",), cells=None):
        """See what a program says, by run and by machines that sweep in several ways."""
        boxes = boxes_with() if boxes is None else boxes
        cells = [0] * (64 - 4 * rooms) if cells is None else cells
        told = run(program, rooms, cells, boxes, 3000)
        self.assertEqual(told[:2], (said, end))
        for sweeps in ([], [1] * 200, [72] * 200, [1000] * 60, [71, 0, 2] * 60):
            self.assertEqual(run_swept(program, rooms, cells, boxes, 3000, sweeps), told)

    def stood(self, program, rooms, steps, boxes=None, cells=None):
        """Tell a machine that has done so many steps."""
        boxes = boxes_with() if boxes is None else boxes
        machine = Machine(program, rooms, [0] * (64 - 4 * rooms) if cells is None else cells, boxes)
        for _ in range(steps):
            machine.step()
        return machine


class Lending(RoomTest):
    def test_a_rooms_key(self):
        for rooms in (1, 2, 12):
            machine = self.stood((("room", 3), END), rooms, 1)
            first = 64 - 4 * rooms
            self.assertEqual(machine.boxes(), boxes_with((3, ("key", first, first + 4, first, "ghls"))))
            self.assertEqual(machine.cells(), [0] * 64)
            self.assertEqual(machine.rooms(), ([first], []))
            self.assertEqual(machine.ended(), None)

    def test_a_room_has_four_cells_and_all_rights(self):
        # The key is at the first cell: far 0 to 3 are the room's, and hold 0; the rest is beyond.
        gets = [row for far in range(4) for row in (("get", 1, 0, far), ("say", 1))]
        self.says([0, 0, 0, 0], (("room", 0), *gets), 2)
        for far in (-1, 4, 63, -63):
            self.says([], (("room", 0), ("get", 1, 0, far)), 2, end=("fault", "beyond", 1))
            self.says([], (("room", 0), ("set", 0, far, 1)), 2, end=("fault", "beyond", 1))
        # A key is put in it and got again (`s`, `g`, `h`), and the room is shut (`l`).
        self.says([1, 0], (("room", 0), ("set", 0, 3, 2), ("get", 1, 0, 3), ("same", 1, 1, 2), ("say", 1), ("shut", 0),
                           ("is", 1, 0), ("say", 1)), 1, boxes_with((2, WHOLE)))

    def test_as_many_as_there_are_and_then_0(self):
        for rooms in (0, 1, 2, 12):
            asks = [row for _ in range(rooms + 2) for row in (("room", 0), ("is", 1, 0), ("say", 1), ("set", 2, 0, 0))]
            self.says([1] * rooms + [0, 0], tuple(asks), rooms, boxes_with((2, WHOLE)))

    def test_no_room_puts_the_number_0(self):
        for word in (5, WHOLE, ("gate", 0, WHOLE)):
            machine = self.stood((("room", 3), ("say", 3), END), 0, 2, boxes_with((3, word)))
            self.assertEqual((machine.boxes(), machine.said()), (boxes_with(), [0]))
            self.assertEqual((machine.rooms(), machine.ended()), (([], []), None))

    def test_rooms_are_not_the_same(self):
        program = (("room", 0), ("room", 1), ("same", 2, 0, 1), ("say", 2), ("put", 3, 5), ("set", 0, 0, 3),
                   ("get", 4, 1, 0), ("say", 4), ("get", 4, 0, 0), ("say", 4))
        self.says([0, 0, 5], program, 2)

    def test_the_key_is_used_like_others(self):
        program = (("room", 0), ("put", 1, 2), ("add", 0, 0, 1), ("narrow", 2, 0, 1), ("fewer", 2, 2, "gs"),
                   ("put", 3, 7), ("set", 2, 1, 3), ("get", 4, 0, 1), ("say", 4), ("get", 4, 2, -1))
        self.says([7], program, 1, end=("fault", "beyond", 9))


class Shutting(RoomTest):
    def test_moved_and_with_fewer_rights_it_is_still_the_rooms(self):
        for at in (-1, 3, 4, 9999, -10000):
            self.says([0], (("room", 0), ("put", 1, at), ("add", 2, 0, 1), ("shut", 2), ("is", 3, 0), ("say", 3)), 1)
            self.says([0], (("room", 0), ("put", 1, at), ("add", 0, 0, 1), ("shut", 0), ("is", 3, 0), ("say", 3)), 1)
        self.says([0, 0], (("room", 0), ("fewer", 2, 0, "l"), ("shut", 2), ("is", 3, 0), ("say", 3),
                           ("is", 3, 2), ("say", 3)), 1)
        # As many cells from the first one on as there are is no narrower.
        self.says([0], (("room", 0), ("put", 1, 4), ("narrow", 2, 0, 1), ("shut", 2), ("is", 3, 0), ("say", 3)), 1)

    def test_kind(self):
        for word in (0, 60, ("gate", 0, 5), ("gate", 0, WHOLE)):
            self.says([], (("room", 0), ("shut", 1), END), 1, boxes_with((1, word)), end=("fault", "kind", 1))
        self.says([], (("room", 0), ("gate", 1, 0, 0), ("shut", 1), END), 1, end=("fault", "kind", 2))

    def test_right_ahead_of_room(self):
        self.says([], (("room", 0), ("fewer", 1, 0, "ghs"), ("shut", 1)), 1, end=("fault", "right", 2))
        for key in (("key", 0, 4, 0, "ghs"), ("key", 56, 60, 56, "ghs"), ("key", 3, 5, 700, "")):
            self.says([], (("room", 0), ("shut", 1)), 1, boxes_with((1, key)), end=("fault", "right", 1))
        self.says([], (("room", 0), ("put", 1, 2), ("narrow", 2, 0, 1), ("fewer", 2, 2, "ghs"), ("shut", 2)), 1,
                  end=("fault", "right", 4))

    def test_narrowed_it_is_no_rooms(self):
        for by, many in ((0, 1), (0, 3), (1, 3), (3, 1)):
            program = (("room", 0), ("put", 1, by), ("add", 2, 0, 1), ("put", 1, many), ("narrow", 2, 2, 1),
                       ("shut", 2))
            self.says([], program, 2, end=("fault", "room", 5))

    def test_cells_that_are_no_rooms(self):
        for key in (("key", 0, 4, 0, "l"), ("key", 52, 56, 52, "ghls"), ("key", 0, 56, 0, "l"), ("key", 3, 7, 4, "l"),
                    ("key", 55, 56, 60, "l")):
            self.says([], (("room", 0), ("room", 0), ("shut", 1)), 2, boxes_with((1, key)), end=("fault", "room", 2))
            # The same cells, where there are no rooms at all.
            self.says([], (("shut", 1),), 0, boxes_with((1, key)), end=("fault", "room", 0))

    def test_a_room_that_is_shut(self):
        # The key is the number 0 by then: no key.
        self.says([], (("room", 0), ("move", 1, 0), ("shut", 0), ("shut", 1)), 1, end=("fault", "kind", 3))
        self.says([], (("room", 0), ("shut", 0), ("shut", 0)), 1, end=("fault", "kind", 2))
        self.says([], (("room", 0), ("shut", 0), ("get", 1, 0, 0)), 1, end=("fault", "kind", 2))

    def test_a_fault_leaves_the_room_lent(self):
        machine = self.stood((("room", 0), ("fewer", 1, 0, "gh"), ("shut", 1)), 1, 3)
        self.assertEqual(machine.ended(), ("fault", "right", 2))
        self.assertEqual(machine.rooms(), ([60], []))
        key = ("key", 60, 64, 60, "ghls")
        self.assertEqual(machine.boxes(), boxes_with((0, key), (1, ("key", 60, 64, 60, "gh"))))


class CalledBack(RoomTest):
    # Keys to two rooms, moved, narrowed and with fewer rights, in all boxes, in gates, in cells, and in both rooms.
    SPREAD = (
        ("room", 1), ("room", 2),
        ("set", 0, 0, 1), ("set", 0, 1, 2), ("set", 1, 0, 1), ("set", 1, 1, 2), ("set", 2, 0, 1), ("set", 2, 1, 2),
        ("gate", 3, 1, 5), ("gate", 4, 2, 5), ("set", 0, 2, 3), ("set", 2, 2, 3), ("set", 0, 3, 4),
        ("put", 7, 1), ("narrow", 5, 1, 7), ("add", 6, 1, 7), ("fewer", 7, 1, "g"),
        ("shut", 1),
    )

    def test_in_boxes_cells_rooms_and_gates(self):
        boxes = boxes_with((0, WHOLE))
        machine = self.stood((*self.SPREAD, END), 2, len(self.SPREAD) - 1, boxes)
        first, second = ("key", 56, 60, 56, "ghls"), ("key", 60, 64, 60, "ghls")
        self.assertEqual(machine.boxes(), [WHOLE, first, second, ("gate", 5, first), ("gate", 5, second),
                                           ("key", 56, 57, 56, "ghls"), ("key", 56, 60, 57, "ghls"),
                                           ("key", 56, 60, 56, "g")])
        self.assertEqual(machine.cells()[:4], [first, second, ("gate", 5, first), ("gate", 5, second)])
        self.assertEqual(machine.cells()[56:], [first, second, 0, 0, first, second, ("gate", 5, first), 0])
        machine.step()
        gone = ([WHOLE, 0, second, ("gate", 5, 0), ("gate", 5, second), 0, 0, 0],
                [0, second, ("gate", 5, 0), ("gate", 5, second)] + [0] * 52
                + [0, second, 0, 0, 0, second, ("gate", 5, 0), 0])
        self.assertEqual((machine.boxes(), machine.cells()), gone)
        for many in (0, 1, 30, 33, 5, 10, 72, 1000):
            machine.sweep(many)
            self.assertEqual((machine.boxes(), machine.cells()), gone)

    def test_the_rows_see_that_they_are_gone(self):
        says = []
        for box in range(8):
            says += [("is", 1, box), ("say", 1)] if box != 1 else []
        program = (*self.SPREAD, *says, END)
        self.says([1, 1, 2, 2, 0, 0, 0], program, 2, boxes_with((0, WHOLE)))
        says = []
        for cell, box in ((0, 0), (1, 0), (0, 2), (1, 2)):
            says += [("get", 1, box, cell), ("is", 1, 1), ("say", 1)]
        self.says([0, 1, 0, 1], (*self.SPREAD, *says, END), 2, boxes_with((0, WHOLE)))

    def test_the_word_of_a_gate_is_gone(self):
        # The gates that stood in a box, a cell and a room's cell are entered: box 7 gets the number 0.
        ahead = tuple([(*row[:3], 22) if row[0] == "gate" else row for row in self.SPREAD])
        for reading in (("move", 5, 3), ("get", 5, 0, 2), ("get", 5, 2, 2)):
            program = (*ahead, ("put", 7, 1), reading, ("enter", 5), ("put", 7, 2), ("say", 7))
            self.says([0], program, 2, boxes_with((0, WHOLE)))

    def test_same_as_the_number_0(self):
        program = (("room", 0), ("move", 1, 0), ("gate", 2, 0, 1), ("put", 4, 0), ("gate", 5, 4, 1), ("same", 3, 1, 4),
                   ("say", 3), ("same", 3, 2, 5), ("say", 3), ("shut", 0), ("same", 3, 1, 4), ("say", 3),
                   ("same", 3, 2, 5), ("say", 3), ("same", 3, 1, 0), ("say", 3))
        self.says([0, 0, 1, 1, 1], program, 1)

    def test_if_does_not_go_by_a_key_that_is_gone(self):
        program = (("room", 0), ("move", 1, 0), ("if", 1, 4), ("say", 0), ("shut", 0), ("if", 1, 7), ("say", 1), END)
        self.says([0], program, 1)

    def test_other_keys_stay(self):
        for rooms in (1, 2):
            # Also the key to the cells just ahead of the rooms.
            key = ("key", 60 - 4 * rooms, 64 - 4 * rooms, 60 - 4 * rooms, "ghls")
            machine = self.stood((("room", 0), ("gate", 2, 1, 0), ("set", 1, 0, 1), ("shut", 0), END), rooms, 4,
                                 boxes_with((1, key)))
            self.assertEqual(machine.boxes(), boxes_with((1, key), (2, ("gate", 0, key))))
            self.assertEqual(machine.cells()[60 - 4 * rooms], key)

    def test_the_other_room_stays(self):
        program = (("room", 0), ("room", 1), ("put", 2, 9), ("set", 1, 1, 2), ("shut", 0), ("get", 3, 1, 1), ("say", 3),
                   ("shut", 1), ("is", 3, 1), ("say", 3))
        self.says([9, 0], program, 2)


class LentAnew(RoomTest):
    def test_it_holds_0(self):
        fill = [row for far in range(4) for row in (("set", 0, far, 1),)]
        look = [row for far in range(4) for row in (("get", 2, 0, far), ("say", 2))]
        for word in (5, WHOLE, ("gate", 0, 7)):
            program = (("room", 0), *fill, ("shut", 0), ("room", 0), *look, END)
            self.says([0] * 4, program, 1, boxes_with((1, word)))
            machine = self.stood(program, 1, 7, boxes_with((1, word)))
            self.assertEqual(machine.cells(), [0] * 64)
            self.assertEqual(machine.boxes()[0], ("key", 60, 64, 60, "ghls"))

    def test_its_words_stay_until_then(self):
        # A room that waits, or is free, holds what it held, but for keys to rooms that wait or are free.
        program = (("room", 0), ("set", 0, 0, 1), ("set", 0, 1, 2), ("set", 0, 2, 3), ("set", 0, 3, 0), ("shut", 0),
                   END)
        boxes = boxes_with((1, 5), (2, WHOLE), (3, ("gate", 0, WHOLE)))
        machine = self.stood(program, 1, 6, boxes)
        for many in (0, 60, 12, 72):
            machine.sweep(many)
            self.assertEqual(machine.cells(), [0] * 60 + [5, WHOLE, ("gate", 0, WHOLE), 0])

    def test_keys_to_it_from_before_stay_gone(self):
        program = (("room", 0), ("move", 1, 0), ("set", 7, 0, 0), ("gate", 2, 0, 0), ("shut", 0), ("room", 3),
                   ("is", 4, 1), ("say", 4), ("get", 4, 7, 0), ("is", 4, 4), ("say", 4), ("same", 4, 1, 3), ("say", 4),
                   ("is", 4, 3), ("say", 4), ("put", 5, 0), ("gate", 5, 5, 0), ("same", 4, 2, 5), ("say", 4))
        self.says([0, 0, 0, 1, 1], program, 1, boxes_with((7, WHOLE)))

    def test_again_and_again(self):
        # Lends, fills, shuts: as often as fuel lasts; the room is never lacking.
        program = (("room", 0), ("is", 1, 0), ("say", 1), ("set", 0, 0, 0), ("set", 7, 0, 0), ("move", 2, 0),
                   ("shut", 0), ("go", 0))
        told = run(program, 1, [0] * 60, boxes_with((7, WHOLE)), 3000)
        self.assertEqual(told, ([1] * 375, ("long",), 3000))
        for sweeps in ([], [1] * 200, [100] * 200):
            self.assertEqual(run_swept(program, 1, [0] * 60, boxes_with((7, WHOLE)), 3000, sweeps), told)

    def test_one_shut_lets_one_be_lent(self):
        program = (("room", 0), ("room", 1), ("room", 2), ("is", 3, 2), ("say", 3), ("shut", 0), ("room", 2),
                   ("is", 3, 2), ("say", 3), ("room", 4), ("is", 3, 4), ("say", 3), ("same", 3, 1, 2), ("say", 3))
        self.says([0, 1, 0, 0], program, 2)


if __name__ == "__main__":
    unittest.main()
