"""Which cells words reach, told in another way, to compare reach and touching with."""


def key(begin, end, rights, at=0):
    return ("key", begin, end, at, rights)


def key_of(word, gates):
    """Tell the key that is come to by a word, in a list; none if there is none."""
    if isinstance(word, tuple) and word[0] == "gate" and gates:
        word = word[2]
    return [word] if isinstance(word, tuple) and word[0] == "key" else []


def fewest_keys(cells, boxes, gates):
    """Tell for each cell and letter that is reached how many keys must be used for it, the last one, too."""
    many = {found: 1 for word in boxes for found in key_of(word, gates)}
    grown = True
    while grown:
        grown = False
        for used in [used for used in many if {"g", "h"} <= set(used[4])]:
            for found in [found for word in cells[used[1]:used[2]] for found in key_of(word, gates)]:
                if many.get(found, 1000) > many[used] + 1:
                    many[found] = many[used] + 1
                    grown = True
    fewest = {}
    for used, count in many.items():
        for cell in range(used[1], used[2]):
            for letter in set(used[4]) & {"g", "s"}:
                fewest[cell, letter] = min(count, fewest.get((cell, letter), 1000))
    return fewest


def reached(cells, boxes, gates):
    """Tell what reach is to tell."""
    fewest = fewest_keys(cells, boxes, gates)
    letters = {}
    for cell, letter in sorted(fewest):
        letters[cell] = letters.get(cell, "") + letter
    return list(letters.items())


def touch_of(row, boxes):
    """Tell the cell and the letter by which a row touches it, if these are the boxes ahead; None if it touches none."""
    if row[0] == "get":
        return (boxes[row[2]][3] + row[3], "g")
    if row[0] == "set":
        return (boxes[row[1]][3] + row[2], "s")
    return None
