"""Plain programs, whose places are numbers: what they say, and rows with one key that say the same."""

from tagmachine.errors import BadProgram
from tagmachine.programs import SHAPES, check_fuel, check_list, check_program
from tagmachine.rows import KEY_PLACE, come_to, row_behind
from tagmachine.words import CELLS, is_number, is_whole

PLAIN_WORDS = ("put", "move", "add", "take", "less", "same", "say", "go", "if", "end", "get", "set")
PLACE_WORDS = ("get", "set")
PLAIN_ROWS = 30
PLAIN_BOXES = 6
# The boxes of the one key, as it is handed in, and as it is moved to a place.
KEY_BOX = 7
MOVED_BOX = 6


def is_plain_value(value, kind):
    """Tell whether a value of this kind in a row may stand in a plain one, too."""
    if kind == "box":
        return value < PLAIN_BOXES
    return kind != "far" or value == 0


def is_plain(row):
    """Tell whether a program's row may stand in a plain one, too."""
    if row[0] not in PLAIN_WORDS:
        return False
    return all([is_plain_value(value, kind) for value, kind in zip(row[1:], SHAPES[row[0]])])


def check_plain(program):
    """Refuse what is no program, then what is no plain one, by its first row that can't be."""
    check_program(program)
    for at, row in enumerate(program):
        if at == PLAIN_ROWS or not is_plain(row):
            raise BadProgram(at)


def place_box(row):
    """Tell the box in which a get or a set finds its place."""
    return row[KEY_PLACE[row[0]]]


def has_no_cell(row, boxes):
    """Tell whether a row is to touch a cell by a number that no cell has."""
    return row[0] in PLACE_WORDS and not is_whole(boxes[place_box(row)], 0, CELLS - 1)


def change_places(row, boxes, cells, said):
    """Change boxes and cells, and say, as a plain row without a fault does."""
    word = row[0]
    if word == "say":
        said.append(boxes[row[1]])
    elif word == "get":
        boxes[row[1]] = cells[boxes[place_box(row)]]
    elif word == "set":
        cells[boxes[place_box(row)]] = boxes[row[3]]
    elif word not in ("go", "if", "end"):
        boxes[row[1]] = come_to(row, boxes)


def run_places(program, cells, fuel):
    """Do a plain program; tell what was said, the end, how many rows were done, and what the cells hold then."""
    check_plain(program)
    check_list(cells, CELLS, 0, is_number)
    check_fuel(fuel)
    in_cells = list(cells)
    in_boxes = [0] * PLAIN_BOXES
    said = []
    at = 0
    for steps in range(1, fuel + 1):
        row = program[at]
        if has_no_cell(row, in_boxes):
            return (said, ("fault", "beyond", at), steps, in_cells)
        change_places(row, in_boxes, in_cells, said)
        at = row_behind(row, at, in_boxes, len(program))
        if at == len(program):
            return (said, ("end",), steps, in_cells)
    return (said, ("long",), fuel, in_cells)


def origins_of(program):
    """Tell for each row that is made of a plain program the number of the plain one."""
    origins = []
    for at, row in enumerate(program):
        origins.extend([at, at] if row[0] in PLACE_WORDS else [at])
    return origins


def rows_made(row, origins):
    """Tell the rows that are made of a plain one."""
    word = row[0]
    if word in PLACE_WORDS:
        # The key in its box stays at 0, so by the place it is moved just there.
        moving = ("add", MOVED_BOX, KEY_BOX, place_box(row))
        touch = ("get", row[1], MOVED_BOX, 0) if word == "get" else ("set", MOVED_BOX, 0, row[3])
        return [moving, touch]
    if word in ("go", "if"):
        return [row[:-1] + (origins.index(row[-1]),)]
    return [row]


def keyed(program):
    """Tell rows that do what a plain program does by one key in a box, and of which plain row each was made."""
    check_plain(program)
    origins = origins_of(program)
    rows = [made for row in program for made in rows_made(row, origins)]
    return (tuple(rows), tuple(origins))
