"""Words: numbers, keys to cells, and gates to rows."""

LEAST = -10000
MOST = 9999
STRETCH = 20000
CELLS = 64
RIGHTS = "ghls"
KINDS = ("number", "key", "gate")


def is_whole(value, least, most):
    """Tell whether a value is a whole number from least to most."""
    # Python takes True and False for integers; here they are no numbers.
    if not isinstance(value, int) or isinstance(value, bool):
        return False
    return least <= value <= most


def is_number(value):
    """Tell whether a value is a number as a word."""
    return is_whole(value, LEAST, MOST)


def common_rights(rights, others):
    """Tell those of the rights that are among the others, too."""
    return "".join([letter for letter in rights if letter in others])


def is_rights(value):
    """Tell whether a value is a text of rights, each at most once, in their order."""
    return isinstance(value, str) and value == common_rights(RIGHTS, value)


def is_tagged(value, tag, size):
    """Tell whether a value is a tuple of this size that begins with this tag."""
    return isinstance(value, tuple) and len(value) == size and value[0] == tag


def is_key(value, cells=CELLS):
    """Tell whether a value is a key to some of the first so many cells."""
    if not is_tagged(value, "key", 5):
        return False
    begin, end, at, rights = value[1:]
    if not is_whole(begin, 0, cells - 1) or not is_whole(end, begin + 1, cells):
        return False
    return is_number(at) and is_rights(rights)


def is_gate(value, rows, cells=CELLS):
    """Tell whether a value is a gate in a program of so many rows; its key is to the first so many cells."""
    if not is_tagged(value, "gate", 3):
        return False
    row, word = value[1:]
    # A gate may lead behind the last row: what enter leaves in box 6 there.
    return is_whole(row, 0, rows) and (is_number(word) or is_key(word, cells))


def is_word(value, rows, cells=CELLS):
    """Tell whether a value is a word beside a program of so many rows; its key is to the first so many cells."""
    return is_number(value) or is_key(value, cells) or is_gate(value, rows, cells)


def kind_of(word):
    """Tell of what kind a word is."""
    # A tag is named as the kind of its words is.
    return "number" if isinstance(word, int) else word[0]


def taken(number):
    """Take a number that comes of others into the stretch of words, by its rest."""
    return (number - LEAST) % STRETCH + LEAST


def moved(key, by):
    """Tell the same key with its at changed by a number."""
    return key[:3] + (taken(key[3] + by),) + key[4:]
