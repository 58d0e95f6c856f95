"""Promise [13]: programs that touch a cell, where words reach it by nine keys or fewer."""

import random
import unittest

from chance import seldom_key, some_key, some_rights, some_word
from reached import fewest_keys, key, reached, touch_of
from refusing import Refusing
from tagmachine.errors import BadCell, BadRooms, BadWord
from tagmachine.machine import Machine
from tagmachine.plain import run
from tagmachine.reach import reach, touching

BOXES = [0] * 8
MOST_KEYS = 9


def chain(cells_used, last, many=64):
    """Tell cells in which the first one used holds a key to the next one, and so on, and the last one holds `last`."""
    cells = [0] * many
    for cell, behind in zip(cells_used, cells_used[1:]):
        cells[cell] = key(behind, behind + 1, "gh", behind)
    cells[cells_used[-1]] = last
    return cells


class Touching(unittest.TestCase):
    def follow(self, program, rooms, cells, boxes, cell, letter):
        """See that a program ends, goes through no gate, and touches the cell so by the last row ahead of its end."""
        machine, done = Machine(program, rooms, list(cells), list(boxes)), []
        while machine.ended() is None:
            held = machine.boxes()
            done.append((program[machine.step()], held))
        self.assertEqual(machine.ended(), ("end",))
        self.assertNotIn("enter", [row[0] for row, held in done])
        if done[-1][0] == ("end",):
            done.pop()
        self.assertEqual(touch_of(*done[-1]), (cell, letter))
        self.assertEqual(run(program, rooms, cells, boxes, 3000), (machine.said(), ("end",), machine.many_done))

    def check(self, rows, rooms, cells, boxes, cell, letter, fewest):
        """See what is told of a cell and a letter; tell whether it is a program."""
        program = touching(rows, rooms, cells, boxes, cell, letter)
        if fewest.get((cell, letter), 1000) > MOST_KEYS:
            self.assertIsNone(program, (cells, boxes, cell, letter))
            return False
        self.assertIs(type(program), tuple)
        self.assertTrue(rows <= len(program) <= 60)
        self.follow(program, rooms, cells, boxes, cell, letter)
        return True

    def check_all(self, rows, rooms, cells, boxes):
        """See what is told of each cell and letter; tell how many programs there are."""
        fewest = fewest_keys(cells, boxes, False)
        self.assertEqual(reach(rows, rooms, cells, boxes, False), reached(cells, boxes, False))
        return sum(self.check(rows, rooms, cells, boxes, cell, letter, fewest)
                   for cell in range(64) for letter in "gs")

    def test_words_by_chance(self):
        chance = random.Random(1301)
        many = 0
        for _ in range(60):
            rows, rooms = chance.choice((1, 2, 27, 28, 60)), chance.choice((0, 1, 5, 12))
            choose = chance.choice((seldom_key, seldom_key, some_word))
            cells = [choose(chance, rows) for _ in range(64 - 4 * rooms)]
            many += self.check_all(rows, rooms, cells, [choose(chance, rows) for _ in range(8)])
        self.assertGreater(many, 300)

    def test_keys_of_one_cell_by_chance(self):
        """Chains of many keys, and of more than nine."""
        chance = random.Random(1302)
        lengths = set()
        for _ in range(40):
            cells = []
            for _ in range(64):
                at = chance.choice((0, 63, -10000, 9999, chance.randrange(-10000, 10000)))
                to = chance.randrange(64)
                cells.append(key(to, to + 1, some_rights(chance, 0.9), at) if chance.random() < 0.9 else 0)
            boxes = [key(4, 5, "gh")] + [0] * 7
            lengths |= set(fewest_keys(cells, boxes, False).values())
            self.check_all(30, 0, cells, boxes)
        self.assertLessEqual(set(range(1, 12)), lengths)

    def test_chains_of_one_to_twelve_keys(self):
        for many in range(1, 13):
            for letter in "gs":
                for rows in (1, 27, 60):
                    # A key in a box, then one in each cell but the last one, which it is about.
                    used = list(range(20, 20 + many))
                    cells = chain(used, 0)
                    boxes = [0] * 5 + [key(20, 21, "gh")] + [0] * 2
                    if many > 1:
                        cells[used[-2]] = key(used[-1], used[-1] + 1, letter)
                    else:
                        boxes[5] = key(20, 21, letter)
                    fewest = fewest_keys(cells, boxes, False)
                    self.assertEqual(fewest[used[-1], letter], many)
                    told = self.check(rows, 0, cells, boxes, used[-1], letter, fewest)
                    self.assertEqual(told, many <= 9)
                    self.check_all(rows, 0, cells, boxes)

    def test_the_way_by_the_fewest_keys(self):
        """Where a longer way is there, too, ahead and behind."""
        used = list(range(10, 22))
        cells = chain(used, key(40, 41, "s"))
        short = [key(21, 22, "gh")]
        for boxes in ([key(10, 11, "gh")] + short, short + [key(10, 11, "gh")]):
            boxes = boxes + [0] * 6
            self.assertTrue(self.check(1, 0, cells, boxes, 40, "s", fewest_keys(cells, boxes, False)))
            self.assertEqual(fewest_keys(cells, boxes, False)[40, "s"], 2)
        # Nine keys by the one, ten by the other.
        for first, last in ((10, 14), (14, 10)):
            boxes = [key(first, first + 1, "gh"), key(last, last + 1, "gh")] + [0] * 6
            self.assertEqual(fewest_keys(cells, boxes, False)[40, "s"], 9)
            self.assertTrue(self.check(1, 0, cells, boxes, 40, "s", fewest_keys(cells, boxes, False)))
        # A cell that is come to by two keys of unlike ways, from which it goes on.
        cells = chain(used, key(40, 41, "s"))
        cells[30] = key(14, 15, "gh")
        boxes = [key(10, 11, "gh"), key(30, 31, "gh")] + [0] * 6
        self.assertEqual(fewest_keys(cells, boxes, False)[40, "s"], 10)
        self.assertFalse(self.check(1, 0, cells, boxes, 40, "s", fewest_keys(cells, boxes, False)))
        cells[30] = key(15, 16, "gh")
        self.assertTrue(self.check(1, 0, cells, boxes, 40, "s", fewest_keys(cells, boxes, False)))

    def test_nine_keys_for_one_letter_and_ten_for_the_other(self):
        cells = chain(list(range(8)), key(50, 51, "ghs", 9999))
        cells[50] = key(50, 51, "g")
        boxes = [0] * 7 + [key(0, 1, "gh", -10000)]
        self.assertEqual(self.check_all(60, 0, cells, boxes), 10)
        self.assertIsNotNone(touching(60, 0, cells, boxes, 50, "g"))
        cells[7] = key(50, 51, "gh", 9999)
        cells[50] = key(50, 51, "s")
        self.assertIsNotNone(touching(60, 0, cells, boxes, 50, "g"))
        self.assertIsNone(touching(60, 0, cells, boxes, 50, "s"))
        self.assertIn((50, "gs"), reach(60, 0, cells, boxes, False))

    def test_at_at_either_end(self):
        for at in (-10000, -9999, -64, -63, -1, 0, 31, 63, 64, 127, 9936, 9937, 9999):
            cells = [0] * 64
            cells[62] = key(0, 64, "gs", at)
            for boxes in ([key(62, 63, "gh", at)] + [0] * 7, [0] * 7 + [key(62, 63, "gh", at)]):
                self.assertEqual(self.check_all(1, 0, cells, boxes), 128)

    def test_no_box_holds_a_number(self):
        gate = ("gate", 0, key(0, 64, "ghls"))
        for others in ([key(9, 10, "")] * 7, [gate] * 7, [gate, key(9, 10, "l")] * 3 + [gate]):
            for box in range(8):
                boxes = others[:box] + [key(3, 4, "gh")] + others[box:]
                self.assertEqual(self.check_all(30, 0, [0] * 3 + [key(63, 64, "gs", -5)] + [0] * 60, boxes), 3)

    def test_every_box_holds_a_key(self):
        boxes = [key(cell, cell + 1, "ghls", -cell) for cell in range(50, 58)]
        self.assertEqual(self.check_all(60, 0, [0] * 64, boxes), 16)
        chance = random.Random(1303)
        for rooms in (0, 12):
            cells = [some_key(chance) for _ in range(64 - 4 * rooms)]
            self.check_all(60, rooms, cells, [some_key(chance) for _ in range(8)])

    def test_set_needs_no_h(self):
        self.assertEqual(self.check_all(1, 0, [0] * 64, [key(5, 6, "s")] * 8), 1)

    def test_gates_are_not_gone_through(self):
        gate = ("gate", 1, key(0, 64, "ghls"))
        for boxes in ([gate] * 8, [key(5, 6, "")] + [gate] * 7):
            self.assertEqual(self.check_all(1, 0, [gate] * 64, boxes), 0)
        self.assertEqual(self.check_all(1, 0, [gate] * 64, [key(5, 6, "gh")] * 8), 1)

    def test_gates_to_the_end(self):
        """Gates that are handed in are gates beside the program, too."""
        for rows in (1, 5, 60):
            gate = ("gate", rows, 7)
            self.assertEqual(self.check_all(rows, 0, [gate] * 64, [key(5, 6, "ghs")] + [gate] * 7), 2)

    def test_cells_of_rooms(self):
        for rooms in range(13):
            many = 64 - 4 * rooms
            boxes = [key(0, many, "ghls")] + [0] * 7
            self.assertEqual(self.check_all(1, rooms, [0] * many, boxes), 2 * many)
            for cell in range(many, 64):
                self.assertIsNone(touching(1, rooms, [0] * many, boxes, cell, "g"))

    def test_as_many_rows_as_told(self):
        cells = chain(list(range(8)), key(50, 51, "g"))
        for rows in range(1, 61):
            for cell in (0, 50):
                program = touching(rows, 0, cells, [key(0, 1, "gh")] + [0] * 7, cell, "g")
                self.assertTrue(rows <= len(program) <= 60)
                self.follow(program, 0, cells, [key(0, 1, "gh")] + [0] * 7, cell, "g")

    def test_handed_in_and_asked_again(self):
        cells, boxes = chain([5, 6], key(50, 51, "g")), [key(5, 6, "gh")] * 8
        kept = (list(cells), list(boxes))
        program = touching(1, 0, cells, boxes, 50, "g")
        self.assertEqual((cells, boxes), kept)
        self.assertEqual(touching(1, 0, cells, boxes, 50, "g"), program)
        cells[5] = 0
        self.assertIsNone(touching(1, 0, cells, boxes, 50, "g"))
        self.assertEqual(touching(1, 0, *kept, 50, "g"), program)


class Refusals(Refusing):
    def test_cells(self):
        for boxes in (BOXES, [key(0, 64, "gs")] * 8):
            for cell in (-1, 64, 65, 1000, -64, True, False, "", "0", (), (0,), ("g",)):
                for letter in ("g", "s", "h", ""):
                    self.refused(BadCell, {}, touching, 1, 0, [0] * 64, boxes, cell, letter)
        for cell in (0, 63):
            self.assertIsNone(touching(1, 0, [0] * 64, BOXES, cell, "g"))

    def test_letters(self):
        for boxes in (BOXES, [key(0, 64, "ghls")] * 8):
            for letter in ("", "gs", "sg", "h", "l", "G", "S", " ", "g ", "gg", "x", "-", 0, True, (), ("g",)):
                self.refused(BadCell, {}, touching, 1, 0, [0] * 64, boxes, 5, letter)

    def test_rooms_and_words(self):
        for rooms in (-1, 13, True, "0", ()):
            self.refused(BadRooms, {}, touching, 1, rooms, [0] * 64, BOXES, 0, "g")
        gate = ("gate", 2, 0)
        for rooms, cells, boxes, place in (
                (0, [0] * 63, BOXES, 63), (12, [0] * 17, BOXES, 16), (0, [0] * 64, [0] * 7, 71),
                (0, [0] * 64, [0] * 9, 72), (0, [0] * 63 + [gate], BOXES, 63), (0, [0] * 64, [gate] + [0] * 7, 64),
                (12, [key(16, 17, "g")] * 16, BOXES, 0), (0, [0] * 64, [0] * 7 + [False], 71)):
            self.refused(BadWord, {"place": place}, touching, 1, rooms, cells, boxes, 0, "g")

    def test_the_first_is_refused_first(self):
        for cell, letter in ((0, "g"), (64, "g"), (0, "h"), (True, "")):
            self.refused(BadRooms, {}, touching, 1, 13, [True], [True], cell, letter)
            self.refused(BadWord, {"place": 0}, touching, 1, 0, [True], [True], cell, letter)
            self.refused(BadWord, {"place": 64}, touching, 1, 0, [0] * 64, [True], cell, letter)


if __name__ == "__main__":
    unittest.main()
