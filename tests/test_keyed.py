"""Promise [14]: plain programs made into rows with one key, which do the same."""

import unittest

from places import WORDS, Places, some_plains
from tagmachine.machine import Machine
from tagmachine.marked import keyed, run_places
from tagmachine.plain import run
from tagmachine.programs import check_program

END = ("end",)
BOXES = [0] * 7 + [("key", 0, 64, 0, "gs")]
COUNTED = list(range(100, 164))


class Keyed(unittest.TestCase):
    def made(self, program):
        """Tell the rows and origins of a plain program, seen to be what they are to be."""
        told = keyed(program)
        self.assertIs(type(told), tuple)
        rows, origins = told
        self.assertIs(type(rows), tuple)
        self.assertIs(type(origins), tuple)
        self.assertIsNone(check_program(rows))
        self.assertEqual(len(rows), len(origins))
        for origin in origins:
            self.assertIs(type(origin), int)
            self.assertIn(origin, range(len(program)))
        self.assertEqual(sorted(set(origins)), list(range(len(program))))
        return rows, origins

    def same_end(self, end, origins, plain_end):
        """See that an end is the same; faults are at a row that was made of the same plain one."""
        if end[0] == "fault":
            end = (*end[:2], origins[end[2]])
        self.assertEqual(end, plain_end)

    def check_run(self, program, cells, fuel=300):
        """Compare a program's rows, by run and by a Machine, if it ends within fuel; tell how it ends."""
        rows, origins = self.made(program)
        said, end, steps, after = run_places(program, cells, fuel)
        if end == ("long",):
            return "long"
        told = run(rows, 0, cells, BOXES, 3000)
        self.assertEqual(told[0], said)
        self.same_end(told[1], origins, end)
        machine = Machine(rows, 0, cells, BOXES)
        while machine.ended() is None:
            machine.step()
        self.assertEqual((machine.said(), machine.cells()), (said, after))
        self.same_end(machine.ended(), origins, end)
        return end[0]

    def check_steps(self, program, cells, many):
        """Compare what is said and what cells hold behind each plain row, so far as fuel lets it come."""
        rows, origins = self.made(program)
        machine, places = Machine(rows, 0, cells, BOXES), Places(program, cells)
        while machine.ended() is None and places.steps < many:
            at = machine.step()
            self.assertEqual(origins[at], places.at)
            # The last of the rows that were made of a plain one does what that does.
            if machine.ended() is not None or at + 1 == len(rows) or origins[at + 1] != origins[at]:
                places.step()
                told = run_places(program, cells, places.steps)
                self.assertEqual((told[0], told[3]), (machine.said(), machine.cells()))
                self.assertEqual(told[1], places.end or ("long",))
        self.assertEqual(machine.ended() is None, places.end is None)

    def test_programs_by_chance(self):
        ends = {}
        for program, cells in some_plains(1421, 800):
            end = self.check_run(program, cells)
            ends[end] = ends.get(end, 0) + 1
        for end in ("end", "fault", "long"):
            self.assertGreater(ends[end], 50)

    def test_programs_by_chance_row_by_row(self):
        for program, cells in some_plains(1422, 150):
            self.check_steps(program, cells, 40)

    def test_thirty_rows_of_get_and_set(self):
        for words in (["get"], ["set"], ["get", "set"]):
            for program, cells in some_plains(1423, 40, words, (30,)):
                self.assertEqual({row[0] for row in program}, set(words))
                rows, origins = self.made(program)
                self.assertLessEqual(len(rows), 60)
                self.check_run(program, cells)
                self.check_steps(program, cells, 30)

    def test_get_set_and_little_else(self):
        for program, cells in some_plains(1424, 200, WORDS + ["get", "set"] * 40, (29, 30)):
            self.check_run(program, cells)

    def test_goals_to_each_row(self):
        for many in (1, 2, 15, 30):
            for goal in range(many):
                # Rows of two kinds, so that rows are made of some by twos; a goal that goes on to the end.
                for row in (("get", 1, 0, 0), ("set", 0, 0, 1), ("say", 1)):
                    rest = [row if at % 3 else ("say", 0) for at in range(many)]
                    rest[0] = ("go", goal)
                    self.check_steps(tuple(rest), COUNTED, 60)
                    self.check_run(tuple(rest), COUNTED)
                    if many > 2:
                        rest[0] = ("get", 2, 0, 0)
                        rest[1] = ("if", 2, goal)
                        self.check_steps(tuple(rest), COUNTED, 60)
                        self.check_run(tuple(rest), COUNTED)

    def test_places(self):
        for place in (-10000, -9999, -64, -1, 0, 1, 31, 62, 63, 64, 65, 127, 9936, 9937, 9999):
            for row in (("get", 0, 1, 0), ("get", 1, 1, 0), ("set", 1, 0, 1), ("set", 1, 0, 2), ("get", 5, 5, 0)):
                for box in (1, 5):
                    program = (("say", 0), ("put", box, place), row, ("say", 0), ("say", 1), ("say", 5))
                    end = self.check_run(program, COUNTED)
                    if box == row[2 if row[0] == "get" else 1]:
                        self.assertEqual(end, "end" if 0 <= place <= 63 else "fault")
                    self.check_steps(program, COUNTED, 9)

    def test_twice_by_the_same_and_by_other_boxes(self):
        program = (("put", 0, 60), ("put", 1, 3), ("get", 2, 0, 0), ("get", 3, 1, 0), ("set", 1, 0, 2),
                   ("set", 0, 0, 3), ("get", 2, 0, 0), ("say", 2), ("say", 3), ("add", 0, 0, 1), ("get", 4, 0, 0),
                   ("say", 4), ("add", 0, 0, 1), ("set", 0, 0, 1), ("say", 1))
        self.assertEqual(self.check_run(program, COUNTED), "fault")
        self.check_steps(program, COUNTED, 50)

    def test_each_plain_row(self):
        for row in (("put", 5, -10000), ("move", 5, 0), ("add", 0, 5, 1), ("take", 1, 0, 5), ("less", 5, 1, 0),
                    ("same", 3, 4, 5), ("say", 5), ("go", 4), ("if", 5, 0), END, ("get", 5, 0, 0), ("set", 5, 0, 0)):
            for at in range(5):
                begin = (("put", 1, 2), ("put", 5, 1), ("get", 0, 1, 0), ("get", 3, 5, 0))
                rest = (("say", 0), ("say", 1), ("say", 3), ("say", 4), ("say", 5))
                self.check_run(begin[:at] + (row,) + begin[at:] + rest, COUNTED)

    def test_asked_again(self):
        for program, cells in some_plains(1425, 20):
            self.assertEqual(keyed(program), keyed(program))


if __name__ == "__main__":
    unittest.main()
