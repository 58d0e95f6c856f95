"""What rows do: which fault a row is, what comes of it, and how a run goes on behind it."""

from tagmachine.programs import ROOM_CELLS, check_begin, first_cells, kept_cells
from tagmachine.words import CELLS, KINDS, RIGHTS, common_rights, kind_of, moved, taken

# The boxes that enter uses beside the one that its row names.
BACK_BOX = 6
WORD_BOX = 7

# For each row's first word: the places in the row that name a box, and the kinds of words wanted in that box.
WANTED = {
    "add": ((2, ("number", "key")), (3, ("number",))),
    "take": ((2, ("number", "key")), (3, ("number",))),
    "less": ((2, ("number",)), (3, ("number",))),
    "get": ((2, ("key",)),),
    "set": ((1, ("key",)),),
    "narrow": ((2, ("key",)), (3, ("number",))),
    "fewer": ((2, ("key",)),),
    "gate": ((2, ("number", "key")),),
    "enter": ((1, ("gate",)),),
    "shut": ((1, ("key",)),),
    "say": ((1, ("number",)),),
}
# The place in a row that names the box of its key, and the right that this key is wanted to have.
KEY_PLACE = {"get": 2, "set": 1, "narrow": 2, "shut": 1}
NEEDED = {"get": "g", "set": "s", "shut": "l"}


def has_other_kind(row, boxes):
    """Tell whether a box holds a word of a kind that the row doesn't want there."""
    if row[0] == "enter" and kind_of(boxes[WORD_BOX]) == "gate":
        return True
    return any([kind_of(boxes[row[place]]) not in kinds for place, kinds in WANTED.get(row[0], ())])


def touched(row, key):
    """Tell the cell that a get or a set touches by its key."""
    return key[3] + (row[3] if row[0] == "get" else row[2])


def is_beyond(row, boxes, key):
    """Tell whether a row is about cells that are none, or not all the key's own."""
    if row[0] == "shut":
        return False
    if row[0] == "narrow":
        begin = key[3]
        end = begin + boxes[row[3]]
    else:
        begin = touched(row, key)
        end = begin + 1
    return not key[1] <= begin < end <= key[2]


def is_kept_out(row, boxes, key):
    """Tell whether a set is to put a key or a gate by a key that lets none through."""
    return row[0] == "set" and kind_of(boxes[row[3]]) != "number" and "h" not in key[4]


def is_no_room(row, key, lent):
    """Tell whether a shut is about other cells than just those of a room that is lent."""
    return row[0] == "shut" and (key[1] not in lent or key[2] != key[1] + ROOM_CELLS)


def fault(row, boxes, lent):
    """Tell the fault of a row, the one whose turn comes first, or None; lent are first cells of rooms."""
    if has_other_kind(row, boxes):
        return "kind"
    if row[0] not in KEY_PLACE:
        return None
    key = boxes[row[KEY_PLACE[row[0]]]]
    if row[0] in NEEDED and NEEDED[row[0]] not in key[4]:
        return "right"
    if is_beyond(row, boxes, key):
        return "beyond"
    if is_kept_out(row, boxes, key):
        return "right"
    if is_no_room(row, key, lent):
        return "room"
    return None


def summed(word, by):
    """Tell a number, or a key with its at, changed by a number."""
    return taken(word + by) if kind_of(word) == "number" else moved(word, by)


def narrowed(key, many):
    """Tell a key to as many cells as told, from its at on."""
    return ("key", key[3], key[3] + many, key[3], key[4])


def got(key, word):
    """Tell what a key lets through of a word in its cells."""
    return word if kind_of(word) == "number" or "h" in key[4] else 0


def come_to(row, boxes):
    """Tell the word that a row without a fault, of those that look at boxes alone, puts in its box."""
    word = row[0]
    if word == "put":
        return row[2]
    first = boxes[row[2]]
    if word == "move":
        return first
    if word == "is":
        return KINDS.index(kind_of(first))
    if word == "fewer":
        return first[:4] + (common_rights(first[4], row[3]),)
    if word == "gate":
        return ("gate", row[3], first)
    second = boxes[row[3]]
    if word == "add":
        return summed(first, second)
    if word == "take":
        return summed(first, -second)
    if word == "narrow":
        return narrowed(first, second)
    if word == "less":
        return 1 if first < second else 0
    return 1 if first == second else 0


def row_behind(row, at, boxes, rows):
    """Tell the row to which a row at this number goes on; as many as there are rows is the end."""
    if row[0] == "end":
        return rows
    if row[0] == "go":
        return row[1]
    if row[0] == "if" and boxes[row[1]] != 0:
        return row[2]
    if row[0] == "enter":
        return boxes[row[1]][1]
    return at + 1


def cleared(word, shut):
    """Tell a word as it is when rooms with these first cells are shut: keys to them are 0, in a gate, too."""
    kind = kind_of(word)
    if kind == "gate":
        return word[:2] + (cleared(word[2], shut),)
    if kind == "key" and any([first <= word[1] < first + ROOM_CELLS for first in shut]):
        return 0
    return word


class Walk:
    """A run as it stands behind some rows; keys to a room that is shut are gone at once."""

    def __init__(self, program, rooms, cells, boxes):
        check_begin(program, rooms, cells, boxes)
        self.program = program
        self.in_cells = first_cells(rooms, cells)
        self.in_boxes = list(boxes)
        self.spoken = []
        self.at = 0
        self.outcome = None
        self.many_done = 0
        # First cells of rooms; those that are lent in the turn in which they were.
        self.free = list(range(kept_cells(rooms), CELLS, ROOM_CELLS))
        self.lent = []

    def seen(self, word):
        """Tell a word as rows see it."""
        return word

    def do_row(self):
        """Do the row that is next; the run hasn't ended."""
        row = self.program[self.at]
        boxes = [self.seen(word) for word in self.in_boxes]
        self.many_done += 1
        wrong = fault(row, boxes, self.lent)
        if wrong is not None:
            self.outcome = ("fault", wrong, self.at)
            return
        self.change(row, boxes)
        self.at = row_behind(row, self.at, boxes, len(self.program))
        if self.at == len(self.program):
            self.outcome = ("end",)

    def change(self, row, boxes):
        """Change words and rooms, and say, as a row without a fault does."""
        word = row[0]
        if word == "say":
            self.spoken.append(boxes[row[1]])
        elif word == "set":
            self.in_cells[touched(row, boxes[row[1]])] = boxes[row[3]]
        elif word == "shut":
            self.call_back(boxes[row[1]][1])
        elif word == "enter":
            self.in_boxes[BACK_BOX] = ("gate", self.at + 1, boxes[WORD_BOX])
            self.in_boxes[WORD_BOX] = boxes[row[1]][2]
        elif word == "room":
            self.in_boxes[row[1]] = self.lend()
        elif word == "get":
            key = boxes[row[2]]
            self.in_boxes[row[1]] = got(key, self.seen(self.in_cells[touched(row, key)]))
        elif word not in ("go", "if", "end"):
            self.in_boxes[row[1]] = come_to(row, boxes)

    def lend(self):
        """Lend the free room of the least cells; tell its key, or 0 if none is free."""
        if not self.free:
            return 0
        first = min(self.free)
        self.free.remove(first)
        self.lent.append(first)
        self.in_cells[first:first + ROOM_CELLS] = [0] * ROOM_CELLS
        return ("key", first, first + ROOM_CELLS, first, RIGHTS)

    def call_back(self, first):
        """Shut the room with this first cell."""
        self.lent.remove(first)
        self.free.append(first)
        self.in_cells = [cleared(word, [first]) for word in self.in_cells]
        self.in_boxes = [cleared(word, [first]) for word in self.in_boxes]

    def told(self):
        """Tell what was said, the end, and how many rows were done."""
        end = ("long",) if self.outcome is None else self.outcome
        return (list(self.spoken), end, self.many_done)
