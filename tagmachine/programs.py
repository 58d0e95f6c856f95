"""Programs, and what a machine begins with: what is let by, and what is refused."""

from tagmachine.errors import BadFuel, BadProgram, BadRooms, BadWord
from tagmachine.words import CELLS, is_number, is_rights, is_whole, is_word

MOST_ROWS = 60
BOXES = 8
FAR = 63
MOST_ROOMS = 12
ROOM_CELLS = 4
MOST_FUEL = 3000

# For each row's first word, the kinds of the values behind it.
SHAPES = {
    "put": ("box", "number"),
    "move": ("box", "box"),
    "add": ("box", "box", "box"),
    "take": ("box", "box", "box"),
    "less": ("box", "box", "box"),
    "same": ("box", "box", "box"),
    "is": ("box", "box"),
    "get": ("box", "box", "far"),
    "set": ("box", "far", "box"),
    "narrow": ("box", "box", "box"),
    "fewer": ("box", "box", "rights"),
    "gate": ("box", "box", "row or end"),
    "enter": ("box",),
    "room": ("box",),
    "shut": ("box",),
    "say": ("box",),
    "go": ("row",),
    "if": ("box", "row"),
    "end": (),
}


def is_value(value, kind, rows):
    """Tell whether a value is of this kind in a program of so many rows."""
    if kind == "box":
        return is_whole(value, 0, BOXES - 1)
    if kind == "number":
        return is_number(value)
    if kind == "far":
        return is_whole(value, -FAR, FAR)
    if kind == "rights":
        return is_rights(value)
    if kind == "row":
        return is_whole(value, 0, rows - 1)
    return is_whole(value, 0, rows)


def is_row(row, rows):
    """Tell whether a value is a row of a program of so many rows."""
    if not isinstance(row, tuple) or not row:
        return False
    if not isinstance(row[0], str) or row[0] not in SHAPES:
        return False
    kinds = SHAPES[row[0]]
    values = row[1:]
    if len(values) != len(kinds):
        return False
    return all([is_value(value, kind, rows) for value, kind in zip(values, kinds)])


def first_wrong(rows):
    """Tell the number of the first that is no row of a program of as many, or too much; None if there is none."""
    for at, row in enumerate(rows):
        if at == MOST_ROWS or not is_row(row, len(rows)):
            return at
    return None


def check_program(program):
    """Refuse what is no program, by its first row that can't be."""
    if not isinstance(program, tuple) or not program:
        raise BadProgram(0)
    wrong = first_wrong(program)
    if wrong is not None:
        raise BadProgram(wrong)


def check_rooms(rooms):
    """Refuse what is no number of rooms."""
    if not is_whole(rooms, 0, MOST_ROOMS):
        raise BadRooms(f"rooms are 0 to {MOST_ROOMS}")


def kept_cells(rooms):
    """Tell how many cells are ahead of so many rooms."""
    return CELLS - ROOM_CELLS * rooms


def check_list(words, many, first, allowed):
    """Refuse what is no list of so many words that are allowed; its places are numbered from first."""
    if not isinstance(words, list):
        raise BadWord(first)
    for at, word in enumerate(words):
        if at == many or not allowed(word):
            raise BadWord(first + at)
    if len(words) < many:
        raise BadWord(first + len(words))


def check_words(rows, rooms, cells, boxes):
    """Refuse rooms, then cells, then boxes with which no machine beside so many rows begins."""
    check_rooms(rooms)
    many = kept_cells(rooms)

    def allowed(word):
        # The rooms lie behind the other cells, so a key that ends ahead of them has none of theirs.
        return is_word(word, rows, many)

    check_list(cells, many, 0, allowed)
    check_list(boxes, BOXES, many, allowed)


def check_begin(program, rooms, cells, boxes):
    """Refuse what no machine begins with; what is handed in first is refused first."""
    check_program(program)
    check_words(len(program), rooms, cells, boxes)


def first_cells(rooms, cells):
    """Tell what all cells hold at first, in a list of its own."""
    return cells + [0] * (ROOM_CELLS * rooms)


def check_fuel(fuel):
    """Refuse what is no fuel."""
    if not is_whole(fuel, 0, MOST_FUEL):
        raise BadFuel(f"fuel is 0 to {MOST_FUEL}")
