"""Promises [1], [3] and [4]: which programs, rooms, cells and boxes are let by, and how others are refused."""

import copy
import unittest

from refusing import Refusing
from tagmachine.errors import BadFuel, BadProgram, BadRooms, BadWord
from tagmachine.programs import (check_begin, check_fuel, check_list, check_program, check_rooms, check_words,
                                 first_cells, is_row)

END = ("end",)
# A row of each word with, for each value behind it, its kind.
ROWS = (
    (("put", 1, 5), ("box", "number")),
    (("move", 1, 2), ("box", "box")),
    (("add", 1, 2, 3), ("box", "box", "box")),
    (("take", 1, 2, 3), ("box", "box", "box")),
    (("less", 1, 2, 3), ("box", "box", "box")),
    (("same", 1, 2, 3), ("box", "box", "box")),
    (("is", 1, 2), ("box", "box")),
    (("get", 1, 2, -3), ("box", "box", "far")),
    (("set", 1, -3, 2), ("box", "far", "box")),
    (("narrow", 1, 2, 3), ("box", "box", "box")),
    (("fewer", 1, 2, "gs"), ("box", "box", "rights")),
    (("gate", 1, 2, 3), ("box", "box", "gate")),
    (("enter", 1), ("box",)),
    (("room", 1), ("box",)),
    (("shut", 1), ("box",)),
    (("say", 1), ("box",)),
    (("go", 1), ("row",)),
    (("if", 1, 2), ("box", "row")),
    (("end",), ()),
)
# In a program of five rows: what may stand there, and what may not.
GOOD = {
    "box": tuple(range(8)),
    "number": (-10000, -9999, -1, 0, 1, 9999),
    "far": (-63, -62, 0, 62, 63),
    "rights": ("", "g", "h", "l", "s", "gs", "hl", "ghls"),
    "row": (0, 1, 4),
    "gate": (0, 1, 4, 5),
}
KINDS = (True, False, "", "1", (), (1,))
BAD = {
    "box": (-1, 8, 9, *KINDS),
    "number": (-10001, 10000, ("key", 0, 64, 0, "g"), *KINDS),
    "far": (-64, 64, 1000, *KINDS),
    "rights": ("sg", "gg", "x", "-", "gsx", 0, 1, True, False, (), ("g",)),
    "row": (-1, 5, 6, *KINDS),
    "gate": (-1, 6, 7, *KINDS),
}
KEY = ("key", 0, 16, 0, "ghls")


def many(row, count):
    return (row,) * count


class BadOnes(Refusing):
    def bad_program(self, row, program):
        self.refused(BadProgram, {"row": row}, check_program, program)

    def bad_word(self, place, rows, rooms, cells, boxes):
        self.refused(BadWord, {"place": place}, check_words, rows, rooms, cells, boxes)


class Rows(BadOnes):
    def test_the_words_that_there_are(self):
        self.assertEqual(len({row[0] for row, kinds in ROWS}), 19)
        for row, kinds in ROWS:
            self.assertTrue(is_row(row, 5), row)
            self.assertIsNone(check_program((row, END, END, END, END)))

    def test_each_value_at_its_edges(self):
        for row, kinds in ROWS:
            for at, kind in enumerate(kinds, start=1):
                for value in GOOD[kind]:
                    other = row[:at] + (value,) + row[at + 1:]
                    self.assertTrue(is_row(other, 5), other)
                for value in BAD[kind]:
                    other = row[:at] + (value,) + row[at + 1:]
                    self.assertFalse(is_row(other, 5), other)
                    self.bad_program(3, (END, END, END, other, END))

    def test_too_few_and_too_many_values(self):
        for row, kinds in ROWS:
            if kinds:
                self.bad_program(1, (END, row[:-1], END, END, END))
            for more in (0, 1, "", ()):
                self.bad_program(1, (END, row + (more,), END, END, END))

    def test_words_that_there_are_not(self):
        for word in ("", "Put", "put ", "puts", "else", "key", "box", "row", "end\n", 0, True, (), ("put",)):
            self.bad_program(0, ((word, 1, 1), END))
            self.bad_program(0, ((word,), END))

    def test_rows_that_are_no_tuples(self):
        for row in (0, 1, True, False, "end", "", (), (END,), ["end"]):
            self.bad_program(1, (END, row, END))


class Programs(BadOnes):
    def test_how_many_rows(self):
        for count in (1, 2, 59, 60):
            self.assertIsNone(check_program(many(END, count)))
        self.bad_program(0, ())
        self.bad_program(60, many(END, 61))
        self.bad_program(60, many(END, 62))
        self.bad_program(60, many(END, 100))

    def test_the_first_row_that_cannot_be(self):
        for count in (1, 2, 59, 60, 61, 80):
            for at in range(min(count, 60)):
                self.bad_program(at, many(END, at) + (("say", 8),) + many(END, count - at - 1))

    def test_two_rows_that_cannot_be(self):
        self.bad_program(1, (END, ("say", 8), ("go", -1), END))
        self.bad_program(2, many(END, 2) + (("stop",),) + many(END, 57) + (("stop",),))
        self.bad_program(60, many(END, 60) + (("stop",), ("stop",)))

    def test_rows_numbers_go_with_how_many_there_are(self):
        for count in (1, 2, 30, 60):
            rest = many(END, count - 1)
            for row in (("go", count - 1), ("if", 0, count - 1), ("gate", 0, 0, count - 1), ("gate", 0, 0, count)):
                self.assertIsNone(check_program((row,) + rest))
                self.assertIsNone(check_program(rest + (row,)))
            for row in (("go", count), ("if", 0, count), ("gate", 0, 0, count + 1), ("go", -1), ("gate", 0, 0, -1)):
                self.bad_program(0, (row,) + rest)
                self.bad_program(count - 1, rest + (row,))

    def test_what_is_no_tuple_has_no_rows(self):
        for program in (0, 1, -1, True, False, "", "end", "end\nend", ["end"], [END]):
            self.bad_program(0, program)

    def test_a_row_in_the_place_of_a_program(self):
        self.bad_program(0, END)
        self.bad_program(0, ("put", 0, 0))

    def test_a_program_in_the_place_of_a_row(self):
        self.bad_program(0, ((END, END),))


class Rooms(BadOnes):
    def test_none_to_twelve(self):
        for rooms in range(13):
            self.assertIsNone(check_rooms(rooms))

    def test_others_are_refused(self):
        for rooms in (-1, 13, 14, 100, -12, True, False, "", "3", (), (3,)):
            self.refused(BadRooms, {}, check_rooms, rooms)

    def test_at_first_rooms_hold_nothing(self):
        for rooms in range(13):
            words = list(range(1, 65 - 4 * rooms))
            told = first_cells(rooms, words)
            self.assertEqual(told, list(range(1, 65 - 4 * rooms)) + [0] * (4 * rooms))
            self.assertEqual(len(told), 64)

    def test_the_first_cells_are_a_list_of_their_own(self):
        for rooms in (0, 3):
            words = [7] * (64 - 4 * rooms)
            told = first_cells(rooms, words)
            told[0] = 8
            self.assertEqual(words, [7] * (64 - 4 * rooms))
            words[1] = 9
            self.assertEqual(told[:2], [8, 7])
            self.assertEqual(first_cells(rooms, words)[:2], [7, 9])


class Fuel(BadOnes):
    def test_none_to_three_thousand(self):
        for fuel in (0, 1, 2999, 3000):
            self.assertIsNone(check_fuel(fuel))

    def test_others_are_refused(self):
        for fuel in (-1, 3001, 10 ** 30, *KINDS):
            self.refused(BadFuel, {}, check_fuel, fuel)


class Words(BadOnes):
    def test_ordinary_words(self):
        for rooms in range(13):
            cells = [0] * (64 - 4 * rooms)
            cells[0], cells[1], cells[-1] = -10000, KEY, ("gate", 3, KEY)
            boxes = [KEY, 9999, ("gate", 0, 5), 0, 0, 0, 0, ("key", 2, 3, -9, "")]
            self.assertIsNone(check_words(3, rooms, cells, boxes))

    def test_how_many_cells(self):
        for rooms in range(13):
            count = 64 - 4 * rooms
            self.bad_word(count - 1, 1, rooms, [0] * (count - 1), [0] * 8)
            self.bad_word(count, 1, rooms, [0] * (count + 1), [0] * 8)
            self.bad_word(count, 1, rooms, [0] * (count + 9), [0] * 8)
            self.bad_word(0, 1, rooms, [], [0] * 8)
            self.bad_word(5, 1, rooms, [0] * 5, [0] * 8)

    def test_how_many_boxes(self):
        for rooms in range(13):
            count = 64 - 4 * rooms
            self.bad_word(count + 7, 1, rooms, [0] * count, [0] * 7)
            self.bad_word(count + 8, 1, rooms, [0] * count, [0] * 9)
            self.bad_word(count + 8, 1, rooms, [0] * count, [0] * 12)
            self.bad_word(count, 1, rooms, [0] * count, [])
            self.bad_word(count + 3, 1, rooms, [0] * count, [0] * 3)

    def test_the_place_of_each_word(self):
        for rooms in (0, 5, 12):
            count = 64 - 4 * rooms
            for place in range(count + 8):
                words = [0] * (count + 8)
                words[place] = 10000
                self.bad_word(place, 1, rooms, words[:count], words[count:])

    def test_the_first_of_two(self):
        bad = ("key", 0, 0, 0, "")
        self.bad_word(4, 1, 0, [0] * 4 + [bad] * 2 + [0] * 58, [0] * 8)
        self.bad_word(4, 1, 0, [0] * 4 + [bad] + [0] * 59, [bad] * 8)
        self.bad_word(66, 1, 0, [0] * 64, [0, 0, bad, bad, 0, 0, 0, 0])
        self.bad_word(4, 1, 0, [0] * 4 + [bad] + [0] * 5, [0] * 8)
        self.bad_word(63, 1, 0, [0] * 63, [bad] * 8)
        self.bad_word(64, 1, 0, [0] * 65, [0] * 7)
        self.bad_word(4, 1, 0, [0] * 4 + [bad] + [0] * 70, [0] * 8)
        self.bad_word(68, 1, 0, [0] * 64, [0] * 4 + [bad] + [0] * 7)
        self.bad_word(64, 1, 0, [0] * 64 + [bad], [0] * 8)
        self.bad_word(72, 1, 0, [0] * 64, [0] * 8 + [bad])

    def test_wrong_words(self):
        wrong = (True, False, -10001, 10000, "", "0", (), (0,), ("key", 0, 16, 0), ("key", 0, 16, 0, "sg"),
                 ("key", 0, 16, True, "g"), ("key", False, 16, 0, "g"), ("key", 0, True, 0, "g"),
                 ("key", 3, 3, 0, "g"), ("key", -1, 3, 0, "g"), ("key", 0, 65, 0, "g"), ("gate", 0, ("gate", 0, 0)),
                 ("gate", 4, 0), ("gate", -1, 0), ("gate", True, 0), ("gate", 0, True), ("gate", 0, ()), ("gate", 0))
        for word in wrong:
            self.bad_word(9, 3, 0, [0] * 9 + [word] + [0] * 54, [0] * 8)
            self.bad_word(69, 3, 0, [0] * 64, [0] * 5 + [word] + [0] * 2)

    def test_gates_go_with_how_many_rows_there_are(self):
        for rows in (1, 2, 60):
            for row in (0, rows - 1, rows):
                gate = ("gate", row, 0)
                self.assertIsNone(check_words(rows, 0, [gate] * 64, [gate] * 8))
            self.bad_word(2, rows, 0, [0, 0, ("gate", rows + 1, 0)] + [0] * 61, [0] * 8)
            self.bad_word(71, rows, 0, [0] * 64, [0] * 7 + [("gate", rows + 1, 0)])

    def test_keys_have_no_cells_of_rooms(self):
        for rooms in range(13):
            count = 64 - 4 * rooms
            for key in (("key", 0, count, 0, "g"), ("key", count - 1, count, 9999, ""), ("key", 0, 1, count, "")):
                for word in (key, ("gate", 0, key)):
                    cells = [word] * count
                    self.assertIsNone(check_words(1, rooms, cells, [word] * 8))
            wrong = [("key", 0, count + 1, 0, "g"), ("key", count - 1, count + 1, 0, ""), ("key", 0, 64, 0, "ghls")]
            wrong += [("key", count, count + 4, 0, "ghls"), ("key", 63, 64, 63, "")]
            for key in wrong if rooms else []:
                for word in (key, ("gate", 0, key)):
                    self.bad_word(7, 1, rooms, [0] * 7 + [word] + [0] * (count - 8), [0] * 8)
                    self.bad_word(count + 7, 1, rooms, [0] * count, [0] * 7 + [word])

    def test_what_is_no_list(self):
        for value in (0, 64, True, "", "0" * 64, (), (0,) * 64, (0,) * 8):
            self.bad_word(0, 1, 0, value, [0] * 8)
            self.bad_word(64, 1, 0, [0] * 64, value)
            self.bad_word(16, 1, 12, [0] * 16, value)

    def test_lists_of_other_words(self):
        self.assertIsNone(check_list([1, 2], 2, 5, lambda word: word > 0))
        self.refused(BadWord, {"place": 6}, check_list, [1, 0], 2, 5, lambda word: word > 0)


class Begin(BadOnes):
    def test_what_a_machine_begins_with(self):
        self.assertIsNone(check_begin((END,), 0, [0] * 64, [0] * 8))
        self.assertIsNone(check_begin(many(END, 60), 12, [("gate", 60, 0)] * 16, [KEY] * 8))

    def test_what_is_handed_in_first_is_refused_first(self):
        self.refused(BadProgram, {"row": 1}, check_begin, (END, ("go", 2)), 13, [], [])
        self.refused(BadProgram, {"row": 0}, check_begin, (), True, [], [])
        self.refused(BadRooms, {}, check_begin, (END,), 13, [], [])
        self.refused(BadRooms, {}, check_begin, (END,), False, [], [0] * 8)
        self.refused(BadWord, {"place": 0}, check_begin, (END,), 12, [], [])
        self.refused(BadWord, {"place": 16}, check_begin, (END,), 12, [0] * 16, [])

    def test_gates_are_to_the_programs_rows(self):
        self.assertIsNone(check_begin((END, END), 0, [("gate", 2, 0)] * 64, [("gate", 2, 0)] * 8))
        self.refused(BadWord, {"place": 3}, check_begin, (END, END), 0, [0] * 3 + [("gate", 3, 0)] * 61, [0] * 8)

    def test_what_is_let_by_is_not_changed(self):
        told = (((("go", 0)),), 3, [("gate", 1, KEY)] * 52, [KEY] * 8)
        before = copy.deepcopy(told)
        check_begin(*told)
        check_begin(*told)
        self.assertEqual(told, before)


if __name__ == "__main__":
    unittest.main()
