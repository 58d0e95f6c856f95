"""Promise [9], and [1] of a machine as it stands: steps, sweeps, and rooms that wait and that are free."""

import random
import unittest

from chance import ROOMY, some_begins
from tagmachine.errors import BadCell, BadFuel, BadProgram, BadRooms, BadText, BadWord, Over, TagError
from tagmachine.machine import Machine

END = ("end",)
WHOLE = ("key", 0, 16, 0, "ghls")
ROUND = 72


def machine_with(program, rooms=0, boxes=None, cells=None):
    cells = [0] * (64 - 4 * rooms) if cells is None else cells
    return Machine(program, rooms, cells, [0] * 8 if boxes is None else boxes)


def stepped(program, rooms, steps, boxes=None):
    machine = machine_with(program, rooms, boxes)
    for _ in range(steps):
        machine.step()
    return machine


def told(machine):
    return (machine.said(), machine.ended(), machine.cells(), machine.boxes(), machine.rooms())


class Steps(unittest.TestCase):
    def test_each_step_tells_its_row(self):
        program = (("put", 0, 1), ("go", 4), ("say", 0), END, ("if", 0, 2), ("say", 1))
        machine = machine_with(program)
        self.assertEqual((machine.said(), machine.ended()), ([], None))
        self.assertEqual([machine.step() for _ in range(4)], [0, 1, 4, 2])
        self.assertEqual((machine.said(), machine.ended()), ([1], None))
        self.assertEqual(machine.step(), 3)
        self.assertEqual((machine.said(), machine.ended()), ([1], ("end",)))

    def test_a_machine_does_not_end_by_itself(self):
        machine = machine_with((("put", 1, 1), ("add", 0, 0, 1), ("go", 1)))
        for _ in range(4000):
            machine.step()
        self.assertEqual((machine.ended(), machine.boxes()[:2]), (None, [2000, 1]))

    def over(self, machine, end):
        self.assertEqual(machine.ended(), end)
        before = told(machine)
        for many in (0, 1, 72, 1000):
            with self.assertRaises(Over) as caught:
                machine.step()
            self.assertIsInstance(caught.exception, TagError)
            self.assertIsInstance(caught.exception, ValueError)
            self.assertNotIsInstance(caught.exception, (BadProgram, BadWord, BadRooms, BadFuel, BadCell, BadText))
            self.assertEqual(told(machine), before)
            self.assertIsNone(machine.sweep(many))
            self.assertEqual(told(machine)[:4], before[:4])
            before = told(machine)

    def test_over(self):
        ahead = (("room", 0), ("move", 1, 0), ("set", 0, 0, 1), ("put", 2, 7), ("say", 2), ("shut", 0))
        for behind, end in (((END, ("say", 2)), ("end",)), ((), ("end",)), ((("say", 3),), ("end",)),
                            ((("gate", 5, 3, 8), ("enter", 5)), ("end",)), ((("shut", 0), END), ("fault", "kind", 6)),
                            ((("get", 3, 4, 63), END), ("fault", "beyond", 6)),
                            ((("set", 4, 0, 4), END), ("fault", "right", 6)), ((("shut", 4),), ("fault", "right", 6)),
                            ((("shut", 6),), ("fault", "room", 6))):
            boxes = [0, 0, 0, 0, ("key", 0, 9, 0, "gs"), 0, ("key", 0, 4, 0, "l"), 0]
            machine = machine_with((*ahead, *behind), 2, boxes)
            while machine.ended() is None:
                at = machine.step()
            if end[0] == "fault":
                self.assertEqual(at, 6)
            self.assertEqual(machine.said()[0], 7)
            self.over(machine, end)

    def test_what_is_swept_behind_the_end(self):
        machine = stepped((("room", 0), ("shut", 0)), 1, 2)
        self.assertEqual((machine.ended(), machine.rooms()), (("end",), ([], [60])))
        machine.sweep(ROUND)
        self.assertEqual(machine.rooms(), ([], []))

    def test_the_same_is_told_again(self):
        for begin in some_begins(91, 30):
            machine = Machine(*begin.told())
            for _ in range(40):
                self.assertEqual(told(machine), told(machine))
                if machine.ended() is None:
                    machine.step()

    def test_kinds_of_what_is_told(self):
        machine = machine_with((("room", 0), ("shut", 0), ("say", 1)), 1)
        self.assertIs(type(machine.step()), int)
        self.assertIsNone(machine.sweep(3))
        for name, kind in (("said", list), ("cells", list), ("boxes", list), ("rooms", tuple), ("ended", type(None))):
            self.assertIs(type(getattr(machine, name)()), kind)
        self.assertEqual([type(part) for part in machine.rooms()], [list, list])
        self.assertEqual((len(machine.cells()), len(machine.boxes())), (64, 8))
        machine.step()
        machine.step()
        self.assertEqual(machine.ended(), ("end",))

    def test_lists_told_may_be_changed(self):
        program = (("room", 0), ("room", 1), ("shut", 0), ("say", 2), ("set", 1, 0, 1), ("say", 2), ("room", 3), END)
        machine, other = (machine_with(program, 3) for _ in range(2))
        for _ in range(7):
            machine.step()
            other.step()
            for words in (machine.said(), machine.cells(), machine.boxes(), *machine.rooms()):
                words.append(99)
                words[0] = 98
                words.reverse()
            self.assertEqual(told(machine), told(other))

    def test_machines_apart(self):
        program = (("room", 0), ("set", 0, 0, 0), ("say", 1), ("shut", 0), END)
        cells, boxes = [0] * 60, [0] * 8
        first, second = Machine(program, 1, cells, boxes), Machine(program, 1, cells, boxes)
        for _ in range(4):
            first.step()
        first.sweep(5)
        self.assertEqual(told(second), ([], None, [0] * 64, [0] * 8, ([], [])))


class SweepTest(unittest.TestCase):
    def freed_behind(self, many, machine, lent, waits):
        """See that the room that waits is free behind just so many words more."""
        for _ in range(many):
            self.assertEqual(machine.rooms(), (lent, [waits]))
            machine.sweep(0)
            machine.sweep(1)
        self.assertEqual(machine.rooms(), (lent, []))


class Sweeps(SweepTest):
    SHUT = (("room", 0), ("shut", 0), ("room", 0), ("shut", 0), END)

    def test_shut_ahead_of_the_first_round(self):
        for many, waits in ((0, True), (1, True), (71, True), (72, False), (73, False), (144, False), (1000, False)):
            machine = stepped(self.SHUT, 1, 2)
            self.assertEqual(machine.rooms(), ([], [60]))
            machine.sweep(many)
            self.assertEqual(machine.rooms(), ([], [60] if waits else []))
        self.freed_behind(72, stepped(self.SHUT, 1, 2), [], 60)

    def test_shut_within_a_round(self):
        for ahead in (1, 2, 35, 63, 64, 65, 71):
            machine = stepped(self.SHUT, 1, 1)
            machine.sweep(ahead)
            machine.step()
            self.freed_behind(72 - ahead + 72, machine, [], 60)

    def test_shut_just_at_a_rounds_end(self):
        for ahead in (72, 144, 72 * 13):
            machine = stepped(self.SHUT, 1, 1)
            machine.sweep(ahead)
            machine.step()
            self.freed_behind(72, machine, [], 60)

    def test_sweeps_of_many_sizes_come_to_the_same(self):
        for ahead, behind, waits in ((0, 71, True), (0, 72, False), (1, 71, True), (1, 142, True), (1, 143, False),
                                     (71, 1, True), (71, 72, True), (71, 73, False), (72, 71, True), (72, 72, False),
                                     (73, 71, True), (73, 142, True), (73, 143, False), (144, 72, False),
                                     (1000, 72, True), (1000, 79, True), (1000, 80, False), (64, 80, False),
                                     (64, 79, True)):
            machine = stepped(self.SHUT, 1, 1)
            machine.sweep(ahead)
            machine.step()
            machine.sweep(behind)
            self.assertEqual(machine.rooms(), ([], [60] if waits else []), (ahead, behind))

    def test_rooms_shut_one_by_one(self):
        program = (("room", 0), ("room", 1), ("room", 2), ("shut", 1), ("shut", 0), ("shut", 2), END)
        machine = stepped(program, 3, 3)
        self.assertEqual(machine.rooms(), ([52, 56, 60], []))
        machine.step()
        machine.sweep(10)
        machine.step()
        self.assertEqual(machine.rooms(), ([60], [52, 56]))
        machine.sweep(62)
        self.assertEqual(machine.rooms(), ([60], [52]))
        machine.step()
        self.assertEqual(machine.rooms(), ([], [52, 60]))
        machine.sweep(71)
        self.assertEqual(machine.rooms(), ([], [52, 60]))
        machine.sweep(1)
        self.assertEqual(machine.rooms(), ([], []))

    def test_sweeps_beyond_what_there_are(self):
        # No error is told for these: none are looked at, or as many as told.
        machine = stepped(self.SHUT, 1, 2)
        machine.sweep(-1)
        self.assertEqual(machine.rooms(), ([], [60]))
        machine.sweep(1001)
        machine.step()
        self.assertEqual(machine.rooms(), ([60], []))
        machine.step()
        self.freed_behind(72 - 1001 + 72 * 13 + 72, machine, [], 60)

    def test_sweeps_change_no_words(self):
        for begin in some_begins(92, 40, ROOMY, (30, 50)):
            machine = Machine(*begin.told())
            for many in range(60):
                if machine.ended() is None:
                    machine.step()
                before = told(machine)
                machine.sweep(many)
                self.assertEqual(told(machine)[:4], before[:4])
                self.assertEqual(machine.rooms()[0], before[4][0])


class Lending(SweepTest):
    def test_the_free_room_of_the_least_cells(self):
        program = (("room", 0), ("room", 1), ("room", 2), ("room", 3), ("shut", 3), ("shut", 1), ("shut", 2),
                   ("room", 4), ("room", 5), ("room", 6), END)
        machine = stepped(program, 4, 7)
        machine.sweep(ROUND)
        self.assertEqual(machine.rooms(), ([48], []))
        for lent in ([48, 52], [48, 52, 56], [48, 52, 56, 60]):
            machine.step()
            self.assertEqual(machine.rooms(), (lent, []))

    def test_a_free_room_is_lent_ahead_of_ones_that_wait(self):
        # Nothing is swept, as long as one is free, though one that waits has lesser cells.
        program = (("room", 0), ("shut", 0), ("room", 0), ("shut", 0), ("room", 0), ("room", 1), END)
        machine = stepped(program, 3, 3)
        self.assertEqual(machine.rooms(), ([56], [52]))
        machine.step()
        machine.step()
        self.assertEqual(machine.rooms(), ([60], [52, 56]))
        # None is free now: one round, and both are.
        machine.step()
        self.assertEqual(machine.rooms(), ([60, 52], []))

    def test_lent_in_their_turn_and_those_that_wait_rising(self):
        program = (("room", 0), ("room", 1), ("room", 2), ("room", 3), ("shut", 2), ("shut", 0), ("room", 4),
                   ("shut", 3), ("shut", 1), ("room", 5), END)
        machine = stepped(program, 4, 6)
        self.assertEqual(machine.rooms(), ([52, 60], [48, 56]))
        machine.step()
        self.assertEqual(machine.rooms(), ([52, 60, 48], []))
        machine.step()
        machine.step()
        self.assertEqual(machine.rooms(), ([48], [52, 60]))
        # Room 56 is free since the sweep of the machine's own.
        machine.step()
        self.assertEqual(machine.rooms(), ([48, 56], [52, 60]))

    def ready(self, *sweeps):
        """Tell a machine that has lent both rooms, swept and shut 60, swept and shut 56, and swept, as told."""
        program = (("room", 0), ("room", 1), ("shut", 1), ("shut", 0), ("room", 2), ("room", 3), ("shut", 2), END)
        machine = stepped(program, 2, 2)
        machine.sweep(sweeps[0])
        machine.step()
        machine.sweep(sweeps[1])
        machine.step()
        machine.sweep(sweeps[2])
        return machine

    def test_at_a_rounds_begin_one_round_frees_both(self):
        for ahead in (0, 72):
            machine = self.ready(ahead, 0, 0)
            self.assertEqual(machine.rooms(), ([], [56, 60]))
            machine.step()
            self.assertEqual(machine.rooms(), ([56], []))

    def test_within_a_round_its_end_is_enough(self):
        # 60 was shut ahead of the round's begin, 56 within it: behind its end 60 is free, and 56 waits on.
        for between in (1, 40, 71):
            machine = self.ready(0, between, 0)
            self.assertEqual(machine.rooms(), ([], [56, 60]))
            machine.step()
            # The sweep is at a round's begin now: one round frees 56.
            self.freed_behind(72, machine, [60], 56)

    def test_within_a_round_both_shut_ahead_of_it(self):
        for behind in (1, 71):
            machine = self.ready(72, 0, behind)
            self.assertEqual(machine.rooms(), ([], [56, 60]))
            machine.step()
            self.assertEqual(machine.rooms(), ([56], []))

    def test_within_a_round_one_more_is_needed(self):
        # Both were shut within the round: behind its end none is free, behind the next one both are.
        for ahead, between, behind in ((1, 0, 0), (1, 20, 20), (70, 1, 0), (71, 0, 0), (1, 69, 1)):
            machine = self.ready(ahead, between, behind)
            self.assertEqual(machine.rooms(), ([], [56, 60]))
            machine.step()
            self.assertEqual(machine.rooms(), ([56], []))
            # At a round's begin then: what is shut now is free behind 72 words.
            machine.step()
            machine.step()
            self.freed_behind(72, machine, [60], 56)

    def test_where_all_are_lent_the_sweep_goes_on_to_a_rounds_end(self):
        program = (("room", 0), ("room", 1), ("shut", 0), END)
        for ahead in (0, 1, 30, 71, 72):
            machine = stepped(program, 1, 1)
            machine.sweep(ahead)
            machine.step()
            self.assertEqual((machine.rooms(), machine.boxes()[1]), (([60], []), 0))
            machine.step()
            self.freed_behind(72, machine, [], 60)

    def test_nothing_is_swept_where_one_is_free(self):
        program = (("room", 0), ("room", 1), ("shut", 0), END)
        machine = stepped(program, 2, 1)
        machine.sweep(30)
        machine.step()
        machine.step()
        self.freed_behind(72 - 30 + 72, machine, [60], 56)


class Seen(unittest.TestCase):
    PROGRAM = (("room", 1), ("set", 0, 0, 1), ("set", 0, 15, 1), ("gate", 2, 1, 0), ("set", 0, 1, 2), ("move", 7, 1),
               ("room", 3), ("set", 3, 2, 1), ("set", 1, 1, 1), ("set", 1, 2, 3), ("set", 1, 3, 0), ("shut", 1), END)
    KEY = ("key", 60, 64, 60, "ghls")

    def test_keys_to_rooms_that_wait_and_that_are_free(self):
        machine = stepped(self.PROGRAM, 2, len(self.PROGRAM) - 1, [WHOLE] + [0] * 7)
        boxes = [WHOLE, 0, ("gate", 0, 0), self.KEY, 0, 0, 0, 0]
        cells = [0, ("gate", 0, 0)] + [0] * 54 + [0, 0, self.KEY, WHOLE] + [0] * 4
        for many in (0, 1, 1, 14, 47, 1, 7, 1, 72, 1000):
            machine.sweep(many)
            self.assertEqual((machine.cells(), machine.boxes()), (cells, boxes))
        self.assertEqual(machine.rooms(), ([60], []))

    def test_a_key_is_not_carried_past_the_sweep(self):
        # The key to the room stands in cell 15 and box 7; the sweep has passed cells 0 to 9 when it is copied there.
        program = (("room", 1), ("set", 0, 15, 1), ("move", 7, 1), ("put", 1, 0), ("shut", 7), ("get", 2, 0, 15),
                   ("set", 0, 0, 2), ("set", 0, 1, 7), ("gate", 3, 7, 0), ("set", 0, 2, 3), ("room", 4),
                   ("get", 5, 0, 0), ("is", 5, 5), ("say", 5), ("get", 5, 0, 1), ("is", 5, 5), ("say", 5),
                   ("get", 5, 0, 2), END)
        machine = stepped(program, 1, 5, [WHOLE] + [0] * 7)
        machine.sweep(10)
        for _ in range(5):
            machine.step()
        machine.sweep(62)
        self.assertEqual(machine.rooms(), ([], []))
        machine.step()
        self.assertEqual(machine.rooms(), ([60], []))
        for _ in range(7):
            machine.step()
        self.assertEqual(machine.said(), [0, 0])
        self.assertEqual(machine.boxes()[5], ("gate", 0, 0))
        self.assertEqual(machine.cells()[:16], [0, 0, ("gate", 0, 0)] + [0] * 13)


class RoomsByCount:
    """Rooms by the count of words looked at: one shut behind so many is free behind the next whole round."""

    def __init__(self, rooms):
        self.firsts = list(range(64 - 4 * rooms, 64, 4))
        self.count = 0
        self.lent = []
        self.shut_at = {}

    def waits(self, first):
        return first in self.shut_at and self.count < -(-self.shut_at[first] // ROUND) * ROUND + ROUND

    def free(self):
        return [first for first in self.firsts if first not in self.lent and not self.waits(first)]

    def lend(self):
        if not self.free():
            self.count = -(-self.count // ROUND) * ROUND
        if not self.free():
            self.count += ROUND
        if self.free():
            self.lent.append(self.free()[0])
            self.shut_at.pop(self.lent[-1], None)

    def told(self):
        return (self.lent, [first for first in self.firsts if self.waits(first)])


class ByChance(unittest.TestCase):
    def follow(self, begin, chance):
        machine, model, rooms = Machine(*begin.told()), begin.model(), RoomsByCount(begin.rooms)
        pace = chance.choice((0, 1, 9, 72, 300))
        while model.end is None and model.steps < 120:
            row, shut = begin.program[model.at], list(model.lent)
            self.assertEqual(machine.step(), model.step())
            if row[0] == "room":
                rooms.lend()
            if len(model.lent) < len(shut):
                at = [at for at, area in enumerate(shut) if area not in model.lent][0]
                rooms.shut_at[rooms.lent.pop(at)] = rooms.count
            many = chance.choice((0, 0, 1, pace, chance.randrange(pace + 1), 72))
            if chance.random() < 0.5:
                machine.sweep(many)
                rooms.count += many
            self.assertEqual(machine.rooms(), rooms.told(), begin.program)
            self.compare_words(machine, model)
        return rooms

    def compare_words(self, machine, model):
        firsts = machine.rooms()[0]
        plain, lent = model.cells(firsts)
        cells = machine.cells()
        self.assertEqual(machine.boxes(), model.boxes(firsts))
        self.assertEqual(cells[:len(plain)], plain)
        self.assertEqual({first: cells[first:first + 4] for first in firsts}, lent)
        self.assertEqual((machine.said(), machine.ended()), (model.said, model.end))

    def test_words_and_rooms_step_by_step(self):
        chance = random.Random(93)
        shut = 0
        for begin in some_begins(94, 200, ROOMY, (30, 50)):
            shut += len(self.follow(begin, chance).shut_at)
        self.assertGreater(shut, 50)
        for begin in some_begins(95, 100):
            self.follow(begin, chance)


if __name__ == "__main__":
    unittest.main()
