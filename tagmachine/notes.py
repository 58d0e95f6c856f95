"""Programs as texts."""

from tagmachine.errors import BadText
from tagmachine.programs import SHAPES, check_program, first_wrong

FIGURES = "0123456789"
MOST_FIGURES = 5
NO_RIGHTS = "-"


def written_value(value):
    """Tell how a word of a row is written."""
    return NO_RIGHTS if value == "" else str(value)


def written_row(row):
    """Tell how a row is written."""
    return " ".join([written_value(value) for value in row])


def written(program):
    """Tell how a program is written."""
    check_program(program)
    return "\n".join([written_row(row) for row in program])


def read_number(word):
    """Tell the number that a word of a text is, None for others."""
    figures = word.removeprefix("-")
    if not 1 <= len(figures) <= MOST_FIGURES or not all([sign in FIGURES for sign in figures]):
        return None
    number = int(word)
    # A number is written in one way alone, so needless figures and signs are seen by writing it again.
    return number if str(number) == word else None


def read_rights(word):
    """Tell the rights for which a word of a text may stand, None for no word."""
    if word == NO_RIGHTS:
        return ""
    return word if word else None


def read_value(word, kind):
    """Tell the value for which a word of a text may stand, None if there is none."""
    return read_rights(word) if kind == "rights" else read_number(word)


def read_row(line):
    """Tell what a line stands for: a row, or what is none."""
    word, *others = line.split(" ")
    kinds = SHAPES.get(word, ())
    if len(others) != len(kinds):
        return ()
    return (word,) + tuple([read_value(other, kind) for other, kind in zip(others, kinds)])


def read(text):
    """Tell the program that is written so, and refuse other texts by their first line that is no row."""
    rows = tuple([read_row(line) for line in text.split("\n")])
    wrong = first_wrong(rows)
    if wrong is not None:
        raise BadText(wrong)
    return rows
