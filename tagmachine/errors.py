"""The refusals, one class for each kind."""


class TagError(ValueError):
    """Any refusal."""


class BadProgram(TagError):
    """What is no program; `row` is the first row that can't be."""

    def __init__(self, row):
        super().__init__(f"row {row} can't be")
        self.row = row


class BadWord(TagError):
    """Words that a machine can't begin with; `place` is the first that can't be, lacks, or is too much."""

    def __init__(self, place):
        super().__init__(f"the word at place {place} can't be, lacks, or is too much")
        self.place = place


class BadRooms(TagError):
    """A number of rooms that there can't be."""


class BadFuel(TagError):
    """Fuel that there can't be."""


class BadCell(TagError):
    """What is no cell, or no way to touch one."""


class Over(TagError):
    """A row is asked of a machine that has ended."""


class BadText(TagError):
    """A text that is no program; `line` is the first that is no row."""

    def __init__(self, line):
        super().__init__(f"line {line} is no row")
        self.line = line
