"""Promise [14]: what plain programs say, by numbers as places, and which programs are plain."""

import unittest

from places import Places, some_plains
from refusing import Refusing
from tagmachine.errors import BadFuel, BadProgram, BadWord
from tagmachine.marked import keyed, run_places

END = ("end",)
CELLS = [0] * 64
COUNTED = list(range(100, 164))
KEY = ("key", 0, 64, 0, "gs")
# Rows of all plain words, in a program of five rows.
PLAIN = (("put", 5, -10000), ("put", 0, 9999), ("move", 5, 0), ("add", 0, 5, 1), ("take", 1, 0, 5), ("less", 5, 1, 0),
         ("same", 3, 4, 5), ("say", 5), ("go", 0), ("go", 4), ("if", 5, 0), ("if", 0, 4), END, ("get", 5, 0, 0),
         ("get", 0, 5, 0), ("set", 5, 0, 0), ("set", 0, 0, 5))
# Rows of programs, but of no plain one.
OTHERS = (("is", 0, 1), ("narrow", 0, 1, 2), ("fewer", 0, 1, "gs"), ("fewer", 0, 1, ""), ("gate", 0, 1, 2),
          ("enter", 0), ("room", 0), ("shut", 0), ("get", 0, 1, 1), ("get", 0, 1, -1), ("get", 0, 1, 63),
          ("set", 0, 1, 1), ("set", 0, -1, 1), ("set", 0, -63, 1))
SHAPES = (("put", "box", 3), ("move", "box", "box"), ("add", "box", "box", "box"), ("take", "box", "box", "box"),
          ("less", "box", "box", "box"), ("same", "box", "box", "box"), ("say", "box"), ("if", "box", 0),
          ("get", "box", "box", 0), ("set", "box", 0, "box"))


def other_boxes():
    """Tell plain rows with box 6 and with box 7 in each place of a row."""
    for shape in SHAPES:
        for at, kind in enumerate(shape):
            for box in (6, 7):
                if kind == "box":
                    yield tuple(box if at == place else 0 if value == "box" else value
                                for place, value in enumerate(shape))


class Rows(unittest.TestCase):
    def told(self, said, program, cells=CELLS, end=("end",), changed=None):
        """See what a program says that goes straight on, all rows of which are done."""
        after = list(cells)
        for cell, number in (changed or {}).items():
            after[cell] = number
        expected = (said, end, len(program), after)
        self.assertEqual(run_places(program, list(cells), 3000), expected)
        self.assertEqual(Places(program, cells).run(3000), expected)

    def test_boxes_hold_nothing_at_first(self):
        self.told([0] * 6, tuple(("say", box) for box in range(6)), COUNTED)

    def test_numbers(self):
        for word, first, second, third in (
                ("add", 2, 3, 5), ("add", 9999, 1, -10000), ("add", 9999, 9999, -2), ("add", -10000, -1, 9999),
                ("add", -10000, -10000, 0), ("take", 2, 3, -1), ("take", -10000, 1, 9999), ("take", 9999, -1, -10000),
                ("take", 0, -10000, -10000), ("take", 9999, -10000, -1), ("less", 2, 3, 1), ("less", 3, 3, 0),
                ("less", 4, 3, 0), ("less", -10000, 9999, 1), ("same", 3, 3, 1), ("same", 3, 4, 0), ("same", 0, 0, 1)):
            self.told([third], (("put", 1, first), ("put", 2, second), (word, 0, 1, 2), ("say", 0)))
            # The same box read and written.
            self.told([third, second], (("put", 1, first), ("put", 2, second), (word, 1, 1, 2), ("say", 1), ("say", 2)))
            self.told([third, first], (("put", 1, first), ("put", 2, second), (word, 2, 1, 2), ("say", 2), ("say", 1)))

    def test_put_and_move(self):
        for number in (-10000, -1, 0, 9999):
            program = (("put", 5, number), ("move", 0, 5), ("say", 0), ("say", 5), ("move", 5, 5), ("say", 5))
            self.told([number] * 3, program)

    def test_get(self):
        for place in (0, 1, 62, 63):
            self.told([100 + place, place], (("put", 1, place), ("get", 2, 1, 0), ("say", 2), ("say", 1)), COUNTED)
            self.told([100 + place], (("put", 1, place), ("get", 1, 1, 0), ("say", 1)), COUNTED)

    def test_set(self):
        for place in (0, 1, 62, 63):
            program = (("put", 1, place), ("put", 2, -7), ("set", 1, 0, 2), ("get", 3, 1, 0), ("say", 3), ("say", 1))
            self.told([-7, place], program, COUNTED, changed={place: -7})
            self.told([], (("put", 1, place), ("set", 1, 0, 1)), COUNTED, changed={place: place})

    def test_beyond(self):
        for place in (-1, 64, -10000, 9999, -64, 65, 127, -2):
            for row in (("get", 0, 1, 0), ("set", 1, 0, 0), ("get", 1, 1, 0), ("set", 1, 0, 1)):
                self.told([0], (("say", 0), ("put", 1, place), row), COUNTED, ("fault", "beyond", 2))
        # Sums beyond the stretch are places again.
        program = (("put", 1, 9999), ("put", 2, 1), ("add", 1, 1, 2), ("put", 2, -9937), ("add", 1, 1, 2),
                   ("get", 0, 1, 0), ("say", 0))
        self.told([163], program, COUNTED)

    def test_a_fault_changes_nothing(self):
        program = (("put", 0, 5), ("set", 0, 0, 0), ("put", 1, 64), ("set", 1, 0, 0), ("say", 0))
        self.assertEqual(run_places(program, CELLS, 9), ([], ("fault", "beyond", 3), 4, [0] * 5 + [5] + [0] * 58))

    def test_go_if_end(self):
        program = (("go", 2), ("say", 0), ("put", 1, 7), ("if", 0, 1), ("if", 1, 6), ("say", 0), ("say", 1), END,
                   ("say", 0))
        self.assertEqual(run_places(program, CELLS, 9), ([7], ("end",), 6, CELLS))
        for number in (-10000, -1, 1, 9999):
            program = (("put", 0, number), ("if", 0, 3), ("say", 0), END)
            self.assertEqual(run_places(program, CELLS, 9), ([], ("end",), 3, CELLS))

    def test_each_plain_row(self):
        for row in PLAIN:
            program = (row, END, END, END, END)
            self.assertEqual(run_places(program, COUNTED, 50), Places(program, COUNTED).run(50))

    def test_programs_by_chance(self):
        ends = {}
        for program, cells in some_plains(1401, 1500):
            for fuel in (0, 1, 20, 200):
                told = run_places(program, cells, fuel)
                self.assertEqual(told, Places(program, cells).run(fuel), program)
            ends[told[1][0]] = ends.get(told[1][0], 0) + 1
        for end in ("end", "fault", "long"):
            self.assertGreater(ends[end], 50)


class Fuel(Refusing):
    LOOP = (("put", 0, 1), ("add", 1, 1, 0), ("set", 0, 0, 1), ("go", 1))

    def test_just_enough(self):
        for program, end, rows in (((("say", 0), END, ("say", 0)), ("end",), 2), ((("say", 0),), ("end",), 1),
                                   ((("put", 0, 64), ("say", 1), ("get", 1, 0, 0)), ("fault", "beyond", 2), 3)):
            for fuel in (rows, rows + 1, 3000):
                self.assertEqual(run_places(program, CELLS, fuel), ([0], end, rows, CELLS))
            self.assertEqual(run_places(program, CELLS, rows - 1)[1:3], (("long",), rows - 1))
            self.assertEqual(run_places(program, CELLS, 0), ([], ("long",), 0, CELLS))

    def test_a_program_that_does_not_end(self):
        for fuel in (0, 1, 2, 3, 4, 5, 6, 2999, 3000):
            cells = [0, fuel // 3] + [0] * 62
            self.assertEqual(run_places(self.LOOP, CELLS, fuel), ([], ("long",), fuel, cells))

    def test_others_are_refused(self):
        for fuel in (-1, 3001, 10 ** 9, True, False, "5", (), (5,)):
            self.refused(BadFuel, {}, run_places, self.LOOP, CELLS, fuel)


class Refusals(Refusing):
    def by_both(self, row, program, cells=CELLS, fuel=9):
        self.refused(BadProgram, {"row": row}, run_places, program, cells, fuel)
        self.refused(BadProgram, {"row": row}, keyed, program)

    def test_programs_that_are_none(self):
        for row, program in ((0, ()), (60, (END,) * 61), (1, (END, ("go", 2))), (0, (("put", 8, 1),)),
                             (0, (("put", 0, 10000),)), (2, (END, END, ("say", True))), (1, (END, "end")),
                             (0, 5), (0, "end")):
            self.by_both(row, program)

    def test_thirty_rows(self):
        for many in (1, 29, 30):
            self.assertEqual(run_places((("say", 0),) * many, CELLS, 99), ([0] * many, ("end",), many, CELLS))
        for many in (31, 32, 59, 60):
            self.by_both(30, (("say", 0),) * many)
            self.by_both(30, (("say", 0),) * 30 + (("room", 0),) * (many - 30))
            self.by_both(29, (("say", 0),) * 29 + (("room", 0),) * (many - 29))
        self.by_both(30, (("go", 30),) + (END,) * 30)

    def test_rows_of_no_plain_program(self):
        for row in (*OTHERS, *other_boxes()):
            for at in (0, 1, 13, 29):
                self.by_both(at, (END,) * at + (row,) + (END,) * (29 - at))
                self.by_both(at, (END,) * at + (row,) + OTHERS[:1] * (29 - at))
            self.by_both(0, (row, END, END))

    def test_rows_of_plain_programs(self):
        for row in PLAIN:
            for at in (0, 2, 4):
                program = (END,) * at + (row,) + (END,) * (4 - at)
                run_places(program, CELLS, 0)
                keyed(program)

    def test_what_is_no_program_goes_ahead(self):
        for row in (*OTHERS, *other_boxes()):
            self.by_both(2, (row, END, ("say", 8)))
            self.by_both(2, (row, END, ("go", 3)))
            self.by_both(29, (END,) * 5 + (row,) + (END,) * 23 + ((),))
        self.by_both(40, (END,) * 40 + (("say", 8), END))
        self.by_both(60, (("room", 0),) * 61)

    def test_cells(self):
        for place, cells in ((63, [0] * 63), (64, [0] * 65), (0, []), (5, [0] * 5 + [KEY] + [0] * 58),
                             (0, [("gate", 0, 0)] + [0] * 63), (63, [0] * 63 + [10000]), (7, [0] * 7 + [-10001] * 57),
                             (1, [0, True] + [0] * 62), (2, [0, 0, False] + [0] * 61), (0, ["5"] * 64), (0, [()] * 64),
                             (0, [(0,)] * 64), (63, [9999, -10000] * 31 + [0, KEY, KEY]), (5, [0] * 5 + [True])):
            self.refused(BadWord, {"place": place}, run_places, (END,), cells, 9)

    def test_the_first_is_refused_first(self):
        for fuel in (9, -1):
            self.by_both(1, (END, ("room", 0), END), [True], fuel)
            self.by_both(2, (END, ("room", 0), ("go", 9)), [0] * 64, fuel)
            self.by_both(30, (END,) * 31, [], fuel)
            self.refused(BadWord, {"place": 3}, run_places, (END,), [0] * 3, fuel)
        self.refused(BadFuel, {}, run_places, (END,), CELLS, 3001)


class HandedIn(unittest.TestCase):
    PROGRAM = (("put", 0, 5), ("set", 0, 0, 0), ("say", 0), ("put", 1, 1), ("add", 0, 0, 1), ("go", 1))

    def test_nothing_handed_in_is_changed(self):
        cells = list(COUNTED)
        run_places(self.PROGRAM, cells, 100)
        self.assertEqual(cells, COUNTED)

    def test_what_is_told_may_be_changed(self):
        cells = list(COUNTED)
        for fuel in (0, 1, 2, 50, 3000):
            first = run_places(self.PROGRAM, cells, fuel)
            kept = (list(first[0]), first[1], first[2], list(first[3]))
            first[0].append(1)
            first[3].clear()
            self.assertEqual(cells, COUNTED)
            second = run_places(self.PROGRAM, cells, fuel)
            self.assertEqual(second, kept)
            # What is handed in may be changed behind.
            cells[:] = [7] * 64
            self.assertEqual(second, kept)
            cells[:] = COUNTED

    def test_kinds_of_what_is_told(self):
        for fuel in (0, 3, 3000):
            told = run_places(self.PROGRAM, CELLS, fuel)
            self.assertIs(type(told), tuple)
            self.assertEqual([type(part) for part in told], [list, tuple, int, list])


if __name__ == "__main__":
    unittest.main()
