"""Promise [1] over the whole program: nothing handed in is changed or kept, and asked again the same is told."""

import copy
import random
import unittest

from chance import ROOMY, some_begins, some_explored, some_word
from places import some_plains
from tagmachine.errors import TagError
from tagmachine.machine import Machine, run_swept
from tagmachine.marked import keyed, run_places
from tagmachine.notes import read, written
from tagmachine.plain import run
from tagmachine.reach import reach, touching

END = ("end",)


def spoil(told):
    """Change each list in what was told."""
    if isinstance(told, list):
        told.reverse()
        told.append("spoilt")
        told[0] = -1
    elif isinstance(told, tuple):
        for part in told:
            spoil(part)


def state(machine):
    return (machine.said(), machine.ended(), machine.cells(), machine.boxes(), machine.rooms())


def stepped(begin, sweep):
    """Tell all that a machine tells behind each of its rows, with as many words swept behind each as told."""
    machine = Machine(*begin)
    told = [state(machine)]
    while machine.ended() is None and len(told) < 60:
        told.append((machine.step(), *state(machine)))
        machine.sweep(sweep)
        told.append(state(machine))
    return told


def refusal(call, *told):
    """Tell the refusal of a call, its class and its values."""
    try:
        call(*told)
    except TagError as refused:
        return (type(refused).__name__, vars(refused))
    return None


class Asked:
    """A program with words of its own, and a plain one, with all that may be asked of them; lists are kept as one."""

    def __init__(self, begin, plain, cells):
        self.begin = begin.told()
        self.words = (len(begin.program), *self.begin[1:])
        self.plain = plain
        self.cells = cells
        self.sweeps = [1, 0, 72, 5, 100]

    def questions(self):
        program, rooms, cells, boxes = self.begin
        yield lambda: run(*self.begin, 100)
        yield lambda: run_swept(*self.begin, 100, self.sweeps)
        yield lambda: stepped(self.begin, 7)
        yield lambda: reach(*self.words, True)
        yield lambda: reach(*self.words, False)
        for cell in (0, 3, 15, 16, 63):
            yield lambda cell=cell: touching(*self.words, cell, "g")
            yield lambda cell=cell: touching(*self.words, cell, "s")
        yield lambda: run_places(self.plain, self.cells, 100)
        yield lambda: keyed(self.plain)
        yield lambda: written(program)
        yield lambda: read(written(program))
        yield lambda: refusal(run, program, rooms, cells[1:], boxes, 100)
        yield lambda: refusal(run, *self.begin, 3001)
        yield lambda: refusal(Machine, program, -1, cells, boxes)
        yield lambda: refusal(run_swept, program + ((),), rooms, cells, boxes, 100, self.sweeps)
        yield lambda: refusal(reach, len(program), rooms, cells, boxes[1:], True)
        yield lambda: refusal(touching, *self.words, 64, "g")
        yield lambda: refusal(run_places, (("room", 0),), self.cells, 100)
        yield lambda: refusal(run_places, self.plain, self.cells + [0], 100)
        yield lambda: refusal(keyed, self.plain * 31)
        yield lambda: refusal(written, program + (("go", 61),))
        yield lambda: refusal(read, written(program) + "\n")

    def handed_in(self):
        return (self.begin, self.words, self.plain, self.cells, self.sweeps)


class AskedAgain(unittest.TestCase):
    def check(self, asked):
        """Ask all of several in turn, several times, and spoil what is told."""
        kept = [copy.deepcopy(one.handed_in()) for one in asked]
        questions = [list(one.questions()) for one in asked]
        first = [[copy.deepcopy(question()) for question in row] for row in questions]
        for _ in range(3):
            for at in range(len(questions[0])):
                for row, expected in zip(questions, first):
                    told = row[at]()
                    self.assertEqual(told, expected[at])
                    spoil(told)
        # In another turn, too.
        for row, expected in zip(questions, first):
            for question, answer in reversed(list(zip(row, expected))):
                told = question()
                spoil(told)
                self.assertEqual(question(), answer)
        self.assertEqual([one.handed_in() for one in asked], kept)
        for row in first:
            self.assertNotIn(None, row[-11:])

    def test_two_programs(self):
        plains = some_plains(101, 40)
        begins = list(some_begins(102, 16)) + list(some_begins(103, 16, ROOMY, (30, 50)))
        chance = random.Random(104)
        words = "get get get get set set move add put room shut enter say".split()
        begins += [some_explored(chance, 40, 2, words, some_word) for _ in range(8)]
        chance.shuffle(begins)
        asked = [Asked(begin, plain, cells) for begin, (plain, cells) in zip(begins, plains)]
        for one, two in zip(asked[::2], asked[1::2]):
            self.check([one, two])

    def test_lists_that_are_changed_behind(self):
        """What was told stays as it was, and what is told then is of the words that are there then."""
        for begin, (plain, cells) in zip(some_begins(105, 20), some_plains(106, 20)):
            one = Asked(begin, plain, cells)
            answers = [question() for question in one.questions()]
            kept = copy.deepcopy(answers)
            one.begin[2].clear()
            one.begin[3][:] = [7] * 8
            one.cells[:] = [1] * 64
            one.sweeps.clear()
            self.assertEqual(answers, kept)
            self.assertEqual(refusal(run, *one.begin, 9), ("BadWord", {"place": 0}))
            self.assertEqual(run_places((END,), one.cells, 9)[3], [1] * 64)


class Machines(unittest.TestCase):
    def test_several_beside_one_another(self):
        chance = random.Random(107)
        begins = list(some_begins(108, 12, ROOMY, (30, 50)))
        # Some of the same beginning.
        begins += begins[:6]
        alone = [stepped(begin.told(), 5) for begin in begins]
        for _ in range(3):
            machines = [Machine(*begin.told()) for begin in begins]
            told = [[state(machine)] for machine in machines]
            running = list(range(len(machines)))
            while running:
                at = chance.choice(running)
                machine = machines[at]
                if machine.ended() is not None or len(told[at]) >= 60:
                    running.remove(at)
                    continue
                told[at].append((machine.step(), *state(machine)))
                machine.sweep(5)
                told[at].append(state(machine))
                spoil(state(chance.choice(machines)))
            self.assertEqual(told, alone)

    def test_asked_again_of_a_machine_as_it_stands(self):
        for begin in some_begins(109, 20, ROOMY, (30,)):
            machine = Machine(*begin.told())
            while machine.ended() is None:
                told = state(machine)
                kept = copy.deepcopy(told)
                self.assertEqual(state(machine), told)
                spoil(told)
                self.assertEqual(state(machine), kept)
                machine.step()
                if machine.many_done == 100:
                    break

    def test_what_is_refused_changes_nothing(self):
        for begin in some_begins(110, 20, ROOMY, (30,)):
            machine = Machine(*begin.told())
            while machine.ended() is None and machine.many_done < 200:
                machine.step()
            told = state(machine)
            if machine.ended() is not None:
                for _ in range(3):
                    self.assertEqual(refusal(machine.step)[0], "Over")
                    self.assertEqual(state(machine), told)
                machine.sweep(1000)
                self.assertEqual(refusal(machine.step)[0], "Over")


if __name__ == "__main__":
    unittest.main()
