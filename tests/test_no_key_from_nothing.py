"""Promise [11]: each key behind a row lies in one that stood there ahead of it, or is the one that this row lent."""

import random
import unittest

from chance import ROOMY, some_begins
from tagmachine.machine import Machine


def keys_of(machine):
    """Tell all keys that stand in boxes, cells and gates."""
    words = [word for word in machine.boxes() + machine.cells() if isinstance(word, tuple)]
    words = [word[2] if word[0] == "gate" else word for word in words]
    return {word for word in words if isinstance(word, tuple)}


def lies_in(key, other):
    return other[1] <= key[1] and key[2] <= other[2] and set(key[4]) <= set(other[4])


class NoKeyFromNothing(unittest.TestCase):
    def follow(self, begin, chance):
        """Step through a program; tell how often a key stood behind a row that hadn't stood ahead of it."""
        machine, made = Machine(*begin.told()), 0
        for _ in range(100):
            if machine.ended() is not None:
                break
            ahead, lent = keys_of(machine), machine.rooms()[0]
            row = begin.program[machine.step()]
            behind = keys_of(machine)
            if row[0] == "room" and len(machine.rooms()[0]) > len(lent):
                first = machine.rooms()[0][-1]
                key = ("key", first, first + 4, first, "ghls")
                self.assertIn(key, behind)
                # None to that room was there: keys to it from before are gone.
                self.assertEqual([old for old in ahead if old[1] < first + 4 and first < old[2]], [])
                behind.remove(key)
            for key in behind - ahead:
                self.assertTrue(any(lies_in(key, old) for old in ahead), (row, key, ahead))
                made += 1
            before = keys_of(machine)
            machine.sweep(chance.choice((0, 0, 1, 20, 72)))
            self.assertEqual(keys_of(machine), before)
        return made

    def test_programs_by_chance(self):
        chance = random.Random(121)
        made = sum(self.follow(begin, chance) for begin in some_begins(122, 400))
        self.assertGreater(made, 200)

    def test_programs_with_rooms(self):
        chance = random.Random(123)
        made = sum(self.follow(begin, chance) for begin in some_begins(124, 300, ROOMY, (30, 50)))
        self.assertGreater(made, 200)


class EachRow(unittest.TestCase):
    def test_no_row_makes_a_key_of_numbers(self):
        rows = [("put", 0, 5), ("move", 0, 1), ("is", 0, 1), ("room", 0), ("go", 0), ("end",), ("say", 1), ("if", 1, 0)]
        rows += [(word, 0, 1, 2) for word in ("add", "take", "less", "same", "narrow")]
        rows += [("get", 0, 1, 0), ("set", 0, 0, 1), ("fewer", 0, 1, "ghls"), ("gate", 0, 1, 0), ("enter", 1)]
        rows += [("shut", 1)]
        for row in rows:
            for boxes in ([0] * 8, [60, 64, 60, 1, 2, 3, 4, 5], [("gate", 0, 60)] * 7 + [8]):
                machine = Machine((row,), 0, [60] * 64, boxes)
                machine.step()
                self.assertEqual(keys_of(machine), set(), row)


if __name__ == "__main__":
    unittest.main()
