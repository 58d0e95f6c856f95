"""A machine that does rows one by one, and clears keys that are called back little by little, by a sweep."""

from tagmachine.errors import Over
from tagmachine.programs import check_fuel
from tagmachine.rows import Walk, cleared
from tagmachine.words import CELLS

# How many words a sweep looks at in a round: all cells, then all boxes.
ROUND = 72


class Machine(Walk):
    """A machine as it stands; keys to a room that is shut stay for the sweep to clear, but are seen as 0."""

    def __init__(self, program, rooms, cells, boxes):
        super().__init__(program, rooms, cells, boxes)
        # How many words of its round the sweep has looked at; none ahead of the round's begin.
        self.looked = 0
        # First cells of rooms that wait: those shut ahead of the round's begin, and those shut since.
        self.shut_ahead = []
        self.shut_since = []

    def step(self):
        """Do the next row, and tell its number."""
        if self.outcome is not None:
            raise Over("the machine has ended")
        at = self.at
        self.do_row()
        return at

    def sweep(self, many):
        """Look at so many words more."""
        for count in range(many):
            self.look_on()

    def said(self):
        """Tell the words said so far."""
        return list(self.spoken)

    def cells(self):
        """Tell the words in all cells now."""
        return [self.seen(word) for word in self.in_cells]

    def boxes(self):
        """Tell the words in all boxes now."""
        return [self.seen(word) for word in self.in_boxes]

    def ended(self):
        """Tell how the machine ended, None as long as it runs."""
        return self.outcome

    def rooms(self):
        """Tell the first cells of rooms that are lent, in their turn, and of those that wait, rising."""
        return (list(self.lent), sorted(self.shut_ahead + self.shut_since))

    def seen(self, word):
        """Tell a word as rows see it: keys that the sweep has yet to clear are 0."""
        return cleared(word, self.shut_ahead + self.shut_since)

    def look_on(self):
        """Look at the sweep's next word, and clear it; begin and end rounds."""
        if self.looked == 0:
            self.shut_ahead = self.shut_since
            self.shut_since = []
        if self.looked < CELLS:
            self.in_cells[self.looked] = self.seen(self.in_cells[self.looked])
        else:
            self.in_boxes[self.looked - CELLS] = self.seen(self.in_boxes[self.looked - CELLS])
        self.looked += 1
        if self.looked == ROUND:
            # No key to these is left: each word was looked at, and none can be put back that is seen as 0.
            self.free = self.free + self.shut_ahead
            self.shut_ahead = []
            self.looked = 0

    def lend(self):
        """Lend the free room of the least cells; if none is free, sweep first."""
        if not self.free:
            self.sweep(ROUND - self.looked)
        if not self.free:
            self.sweep(ROUND)
        return super().lend()

    def call_back(self, first):
        """Shut the room with this first cell; it waits."""
        self.lent.remove(first)
        self.shut_since.append(first)


def run_swept(program, rooms, cells, boxes, fuel, sweeps):
    """Tell what run tells, of a machine that sweeps as many words as told behind each row."""
    machine = Machine(program, rooms, cells, boxes)
    check_fuel(fuel)
    while machine.outcome is None and machine.many_done < fuel:
        machine.step()
        if machine.many_done <= len(sweeps):
            machine.sweep(sweeps[machine.many_done - 1])
    return machine.told()
