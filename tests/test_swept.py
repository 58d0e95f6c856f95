"""Promise [10]: run_swept tells what run tells, whatever sweeps are told, and wherever rooms lie."""

import random
import unittest
from unittest import mock

from chance import ROOMY, Begin, some_begins
from tagmachine.machine import Machine, run_swept
from tagmachine.plain import run

END = ("end",)
WHOLE = ("key", 0, 16, 0, "ghls")
FUEL = 200


def some_sweeps(chance):
    """Tell lists of sweeps: none, alike, unlike, shorter and longer than most runs, at most 200."""
    yield []
    yield [0] * 200
    yield [1] * 200
    yield [1000] * 20
    yield [72] * 5
    yield [chance.randrange(1001)]
    yield [chance.choice((0, 1, 30, 71, 72, 73, 144)) for _ in range(chance.randrange(200) + 1)]
    yield [chance.randrange(80) for _ in range(200)]


class AsRun(unittest.TestCase):
    def check(self, begins, chance, fuel=FUEL):
        """See that all tell what the model tells; tell how many rooms were lent and shut."""
        lent = shut = 0
        for begin in begins:
            model = begin.model()
            expected = model.run(fuel)
            self.assertEqual(run(*begin.told(), fuel), expected, begin.program)
            for sweeps in some_sweeps(chance):
                kept = list(sweeps)
                self.assertEqual(run_swept(*begin.told(), fuel, sweeps), expected, (begin.program, sweeps))
                self.assertEqual(sweeps, kept)
            lent += model.lendings
            shut += model.lendings - len(model.lent)
        return lent, shut

    def test_programs_with_rooms(self):
        lent, shut = self.check(some_begins(101, 150, ROOMY, (30, 50)), random.Random(102))
        self.assertGreater(lent, 300)
        self.assertGreater(shut, 150)

    def test_other_programs(self):
        self.check(some_begins(103, 60), random.Random(104))

    def test_fuel(self):
        for fuel in (0, 1, 2, 17):
            self.check(some_begins(105, 20, ROOMY, (5, 30)), random.Random(106), fuel)

    def test_the_longest(self):
        program = (("room", 0), ("room", 1), ("set", 0, 0, 1), ("set", 7, 3, 0), ("is", 2, 1), ("say", 2), ("shut", 0),
                   ("get", 3, 7, 3), ("say", 3), ("shut", 1), ("go", 0))
        boxes = [0] * 7 + [WHOLE]
        told = run(program, 2, [0] * 56, boxes, 3000)
        self.assertEqual(told[1:], (("long",), 3000))
        self.assertEqual(told[0][:6], [1, 0, 1, 0, 1, 0])
        for sweeps in ([], [0] * 200, [1000] * 200, [71] * 200, [37] * 200):
            self.assertEqual(run_swept(program, 2, [0] * 56, boxes, 3000, sweeps), told)


class WhichSweep(unittest.TestCase):
    """Which room is lent hangs on the sweeps, but what is said does not."""

    PROGRAM = (("room", 0), ("shut", 0), ("room", 0), ("say", 1), END)

    def lent_third(self, *sweeps):
        machine = Machine(self.PROGRAM, 2, [0] * 56, [0] * 8)
        for many in sweeps:
            machine.step()
            machine.sweep(many)
        machine.step()
        return machine.rooms()[0]

    def test_other_rooms_are_lent_but_the_same_is_said(self):
        self.assertEqual(self.lent_third(0, 0), [60])
        self.assertEqual(self.lent_third(72, 71), [60])
        self.assertEqual(self.lent_third(0, 72), [56])
        self.assertEqual(self.lent_third(71, 72), [60])
        told = run(self.PROGRAM, 2, [0] * 56, [0] * 8, 9)
        self.assertEqual(told, ([0], ("end",), 5))
        for sweeps in ([], [0, 0], [72, 71], [0, 72], [71, 72], [1000] * 3, [1000] * 200, [5] * 201):
            self.assertEqual(run_swept(self.PROGRAM, 2, [0] * 56, [0] * 8, 9, sweeps), told)


class SweepsInTheirTurn(unittest.TestCase):
    def test_one_behind_each_row_and_none_behind_the_lists_end(self):
        program = (("put", 0, 1), ("say", 0), ("say", 0), END, ("say", 0))
        for fuel, sweeps, done in ((9, [], []), (9, [5, 0, 7], [5, 0, 7]), (9, [5, 4, 3, 2, 1], [5, 4, 3, 2]),
                                   (2, [5, 4, 3], [5, 4]), (0, [5], [])):
            calls = []
            with mock.patch.object(Machine, "step", watched(Machine.step, calls)), \
                    mock.patch.object(Machine, "sweep", watched(Machine.sweep, calls)):
                run_swept(program, 1, [0] * 60, [0] * 8, fuel, sweeps)
            steps = min(fuel, 4)
            expected = [call for at in range(steps)
                        for call in (("step",), *[("sweep", many) for many in done[at:at + 1]])]
            # A sweep of none may be left out.
            self.assertEqual([call for call in calls if call != ("sweep", 0)],
                             [call for call in expected if call != ("sweep", 0)])


def watched(method, calls):
    """Tell a method that notes each call, and does the same."""
    def noting(machine, *told):
        calls.append((method.__name__, *told))
        return method(machine, *told)
    return noting


def moved_word(word, by):
    return ("gate", word[1] + by, word[2]) if isinstance(word, tuple) and word[0] == "gate" else word


def moved_row(row, by):
    return (*row[:-1], row[-1] + by) if row[0] in ("go", "if", "gate") else row


def with_rooms_ahead(begin, many, rooms):
    """Tell the same beginning with so many rooms in all, of which some are lent ahead and their keys thrown away."""
    box = [isinstance(word, int) for word in begin.boxes].index(True)
    ahead = (("room", box),) * many + (("put", box, begin.boxes[box]),)
    program = ahead + tuple(moved_row(row, len(ahead)) for row in begin.program)
    cells, boxes = ([moved_word(word, len(ahead)) for word in words] for words in (begin.cells, begin.boxes))
    return Begin(program, rooms, cells[:64 - 4 * rooms], boxes), len(ahead)


class WhereRoomsLie(unittest.TestCase):
    def same(self, begin, expected, ahead, sweeps):
        """See that the same is told, but for so many rows ahead."""
        said, end, steps = expected
        if end[0] == "fault":
            end = (*end[:2], end[2] + ahead)
        told = (said, end, steps + ahead)
        self.assertEqual(run(*begin.told(), FUEL + ahead), told, begin.program)
        self.assertEqual(run_swept(*begin.told(), FUEL + ahead, sweeps), told, begin.program)

    def check(self, seed, least, others):
        """See that the same is told of other beginnings of programs that lend as many rooms as told, or more."""
        chance = random.Random(seed)
        lent = 0
        for begin in some_begins(seed, 150, ROOMY, (20, 40)):
            if any(isinstance(word, int) for word in begin.boxes):
                model = begin.model()
                expected = model.run(FUEL)
                for other, ahead in others(begin, model):
                    self.same(other, expected, ahead, [chance.randrange(100) for _ in range(60)])
                    lent += model.lendings
        self.assertGreaterEqual(lent, least)

    def test_with_more_rooms(self):
        def others(begin, model):
            for rooms in range(begin.rooms + 1, 1 if model.short else 13):
                yield Begin(begin.program, rooms, begin.cells[:64 - 4 * rooms], begin.boxes), 0

        self.check(111, 500, others)

    def test_with_rooms_lent_ahead(self):
        def others(begin, model):
            for many in range(1, 13 - begin.rooms):
                yield with_rooms_ahead(begin, many, begin.rooms + many)

        self.check(112, 500, others)

    def test_with_rooms_lent_ahead_of_as_many_as_there_were(self):
        def others(begin, model):
            for many in range(1, 1 if model.short else begin.rooms - model.most_lent + 1):
                yield with_rooms_ahead(begin, many, begin.rooms)

        self.check(113, 200, others)

    def test_where_there_are_not_enough(self):
        program = (("room", 0), ("is", 1, 0), ("say", 1))
        self.assertEqual(run(program, 1, [0] * 60, [0] * 8, 9)[0], [1])
        self.assertEqual(run((("room", 7), *program), 1, [0] * 60, [0] * 8, 9)[0], [0])
        self.assertEqual(run((("room", 7), *program), 2, [0] * 56, [0] * 8, 9)[0], [1])


if __name__ == "__main__":
    unittest.main()
