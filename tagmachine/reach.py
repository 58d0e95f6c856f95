"""Which cells words reach, whatever program runs, and programs that touch them."""

from tagmachine.errors import BadCell
from tagmachine.programs import check_words
from tagmachine.words import CELLS, is_whole, kind_of, taken

# The letters of rights by which cells are touched.
LETTERS = ("g", "s")
MOST_KEYS = 9


def key_by(word, gates):
    """Tell the key that is come to by a word, through a gate only if gates is True; None if there is none."""
    if gates and kind_of(word) == "gate":
        return key_by(word[2], gates)
    return word if kind_of(word) == "key" else None


def first_ways(boxes, gates):
    """Tell the ways to keys that begin and end in a box."""
    keys = [key_by(word, gates) for word in boxes]
    return [(box, (), key) for box, key in enumerate(keys) if key is not None]


def shown_cells(key):
    """Tell the cells whose words, keys and gates, too, a key lets be got."""
    if "g" in key[4] and "h" in key[4]:
        return list(range(key[1], key[2]))
    return []


def all_ways(cells, boxes, gates):
    """Tell ways to all keys that are come to, those by fewer keys first.

    A way is the box where it begins, the keys by which others are got, each with the cell of the next one, and the
    last key. One way to each cell is enough, and the first is as short as any: its word is the same by all of them.
    """
    ways = first_ways(boxes, gates)
    come_by = set()
    at = 0
    while at < len(ways):
        box, hops, key = ways[at]
        at += 1
        for cell in shown_cells(key):
            found = key_by(cells[cell], gates)
            if found is not None and cell not in come_by:
                ways.append((box, hops + ((key, cell),), found))
            come_by.add(cell)
    return ways


def touches(key, cell, letter):
    """Tell whether a cell may be touched by a key, so as the letter tells."""
    return key[1] <= cell < key[2] and letter in key[4]


def letters_for(cell, keys):
    """Tell the letters by which a cell may be touched by some of these keys."""
    return "".join([letter for letter in LETTERS if any([touches(key, cell, letter) for key in keys])])


def reach(rows, rooms, cells, boxes, gates):
    """Tell each cell that some program may touch, without rooms', with the letters by which; rising."""
    check_words(rows, rooms, cells, boxes)
    keys = [key for box, hops, key in all_ways(cells, boxes, gates)]
    told = [(cell, letters_for(cell, keys)) for cell in range(len(cells))]
    return [(cell, letters) for cell, letters in told if letters]


def check_touch(cell, letter):
    """Refuse what is no cell, and what is no letter by which one is touched."""
    if not is_whole(cell, 0, CELLS - 1):
        raise BadCell(f"cells are 0 to {CELLS - 1}")
    if letter not in LETTERS:
        raise BadCell("a cell is touched by g or by s")


def move_rows(box, spare, key, cell):
    """Tell rows that move the key in a box to a cell; a number is left in the spare box."""
    return [("put", spare, taken(cell - key[3])), ("add", box, box, spare)]


def way_rows(way, cell, letter):
    """Tell rows that go a way, and touch a cell by its last key."""
    box, hops, key = way
    spare = 1 if box == 0 else 0
    rows = []
    for other, place in hops:
        rows = rows + move_rows(box, spare, other, place) + [("get", box, box, 0)]
    touch = ("get", box, box, 0) if letter == "g" else ("set", box, 0, spare)
    return rows + move_rows(box, spare, key, cell) + [touch]


def touching(rows, rooms, cells, boxes, cell, letter):
    """Tell a program of no fewer rows, without gates, that touches a cell last of all; None if there is none."""
    check_words(rows, rooms, cells, boxes)
    check_touch(cell, letter)
    for way in all_ways(cells, boxes, False):
        box, hops, key = way
        if len(hops) < MOST_KEYS and touches(key, cell, letter):
            made = way_rows(way, cell, letter)
            # End rows make up as many as told, since gates that are handed in may lead to any of these.
            return tuple(made + [("end",)] * max(1, rows - len(made)))
    return None
