"""Promise [15]: programs written as texts, and read."""

import itertools
import random
import unittest

from chance import some_begins
from refusing import Refusing
from tagmachine.errors import BadProgram, BadText
from tagmachine.notes import read, written

END = ("end",)
ALL_RIGHTS = ["".join(some) for many in range(5) for some in itertools.combinations("ghls", many)]
# A row of each word with, for each value behind it, its kind.
ROWS = {"put": "rn", "move": "rr", "add": "rrr", "take": "rrr", "less": "rrr", "same": "rrr", "is": "rr", "get": "rrf",
        "set": "rfr", "narrow": "rrr", "fewer": "rrt", "gate": "rrG", "enter": "r", "room": "r", "shut": "r",
        "say": "r", "go": "g", "if": "rg", "end": ""}


def edges(kind, rows):
    """Tell the least and the greatest value of a kind in a program of so many rows, and some between."""
    return {"r": (0, 7, 3), "n": (-10000, 9999, -9999, -1, 0, 1, 10, 100, 1000, -10, -100, -1000),
            "f": (-63, 63, -10, -1, 0, 1, 10), "t": tuple(ALL_RIGHTS), "g": (0, rows - 1),
            "G": (0, rows - 1, rows)}[kind]


def all_rows(rows):
    """Tell rows of all words with all edges of their values."""
    for word, kinds in ROWS.items():
        for values in itertools.product(*[edges(kind, rows) for kind in kinds]):
            yield (word, *values)


def written_so(row):
    return " ".join("-" if value == "" else str(value) for value in row)


class Written(unittest.TestCase):
    def check(self, program):
        """See a program written, read back to the same, and written again to the same."""
        text = written(program)
        self.assertIs(type(text), str)
        self.assertEqual(text, "\n".join(written_so(row) for row in program))
        self.assertLessEqual(len(text), 1000)
        self.assertRegex(text, r"\A[ -~\n]+\Z")
        back = read(text)
        self.assertEqual(back, program)
        self.assertIs(type(back), tuple)
        for row, other in zip(back, program):
            self.assertIs(type(row), tuple)
            self.assertEqual([type(value) for value in row], [type(value) for value in other])
        self.assertEqual(written(back), text)

    def test_as_the_document_writes_it(self):
        self.assertEqual(written((("fewer", 0, 1, "gs"),)), "fewer 0 1 gs")
        self.assertEqual(written((("fewer", 0, 1, ""),)), "fewer 0 1 -")
        self.assertEqual(written((("put", 7, -10000), ("set", 0, -63, 1), ("gate", 1, 2, 4), END)),
                         "put 7 -10000\nset 0 -63 1\ngate 1 2 4\nend")
        self.assertEqual(read("fewer 0 1 gs"), (("fewer", 0, 1, "gs"),))
        self.assertEqual(read("fewer 0 1 -"), (("fewer", 0, 1, ""),))
        self.assertEqual(read("go 1\nend"), (("go", 1), END))

    def test_each_row_with_its_edges(self):
        self.assertEqual(len(ROWS), 19)
        for row in all_rows(1):
            self.check((row,))
        for rows in (2, 60):
            for row in all_rows(rows):
                self.check((row,) + (END,) * (rows - 1))
                self.check((END,) * (rows - 1) + (row,))

    def test_all_rights(self):
        self.assertEqual(len(set(ALL_RIGHTS)), 16)
        self.check(tuple(("fewer", 0, 1, rights) for rights in ALL_RIGHTS))
        self.check(tuple(("fewer", 7, 7, "ghls") for _ in range(60)))

    def test_programs_of_sixty_rows(self):
        chance = random.Random(1501)
        rows = list(all_rows(60))
        for _ in range(100):
            self.check(tuple(chance.choice(rows) for _ in range(60)))

    def test_programs_by_chance(self):
        for begin in some_begins(1502, 100):
            self.check(begin.program)


class Refusals(Refusing):
    def bad(self, line, text):
        self.refused(BadText, {"line": line}, read, text)

    def bad_line(self, line):
        """See a line refused first, last, between others, and alone."""
        self.bad(0, line)
        self.bad(0, f"{line}\nend\nend")
        self.bad(1, f"end\n{line}\nend")
        self.bad(2, f"end\nend\n{line}")
        # The first one is told.
        self.bad(1, f"end\n{line}\n{line}")

    def test_empty_lines(self):
        self.bad(0, "")
        self.bad(0, "\n")
        self.bad(0, "\n\n\n")
        self.bad(0, "\nend")
        self.bad(1, "end\n")
        self.bad(1, "end\n\nend")
        self.bad(2, "end\nend\n\n\n")
        self.bad(1, "go 1\n")
        self.bad(60, "end\n" * 60)
        self.bad(59, "end\n" * 59)

    def test_blanks(self):
        for line in (" ", "  ", " end", "end ", "  end", "put 0  5", "put  0 5", " put 0 5", "put 0 5 ", "fewer 0 1 ",
                     "fewer 0 1  gs", "fewer 0 1  ", "put 0 ", "put0 5", "put 05", "fewer 0 1gs", "move  0 1", "en d",
                     "fewer 0 1 g s", "put 0 - 5", "put,0,5", "put(0, 5)"):
            self.bad_line(line)

    def test_words(self):
        for line in ("End", "END", "Put 0 5", "PUT 0 5", "puts 0 5", "pu 0 5", "ends", "en", "jump 0", "0", "-", "g",
                     "key 0 1 0 g", "number 5", "row", "box 1", "else", "fewer 0 1 GS", "fewer 0 1 Gs", "5 put 0",
                     "0 put 5", "end end", "~", "!", "\"end\"", "end;", "#end", "end #"):
            self.bad_line(line)

    def test_too_few_and_too_many(self):
        for row in all_rows(1):
            line = written_so(row)
            for more in ("0", "-", "g", "end"):
                self.bad(0, f"{line} {more}")
                self.bad(1, f"end\n{line} {more}")
            if len(row) > 1:
                self.bad(0, line.rpartition(" ")[0])
                self.bad(0, line.partition(" ")[2])

    def test_numbers(self):
        for number in ("007", "07", "-0", "+5", "+0", "00", "-00", "-", "--5", "5-", "10000", "-10001", "99999",
                       "-99999", "1_0", "1_000", "100000", "000005", "-100000", "-000005", "1234567", "1" * 500, "-05",
                       "-007", "0x5", "5.", "5.0", "1e3", "a", "g", "", "0b1", "five", "~5", "*", "1,000", "(5)", "'5'",
                       "- 5", "True", "None"):
            self.bad_line(f"put 0 {number}")
        for box in ("8", "9", "-1", "07", "+1", "-0", "00", "10", "-", "1_0", "a", ""):
            for word, kinds in ROWS.items():
                for at, kind in enumerate(kinds):
                    if kind == "r":
                        values = ["g" if other == "t" else "0" for other in kinds]
                        values[at] = box
                        self.bad_line(" ".join([word, *values]))
        for far in ("64", "-64", "063", "-063", "+1", "-0", "100", "-", ""):
            self.bad_line(f"get 0 1 {far}")
            self.bad_line(f"set 0 {far} 1")

    def test_rights(self):
        for rights in ("hg", "sg", "slhg", "gg", "gsg", "ghlss", "g-", "-g", "--", "gs-", "x", "gx", "G", "0", "1",
                       "ghlsx", "", "g,s", "gsl"):
            self.bad_line(f"fewer 0 1 {rights}")
        self.bad_line("fewer 0 1")
        self.bad_line("put 0 -")
        self.bad_line("fewer 0 - g")

    def test_goals(self):
        for many in (1, 2, 5, 30, 60):
            end = ["end"] * (many - 1)
            for at in {0, many // 2, many - 1}:
                for row in ("go", "if 3", "gate 1 2"):
                    beyond = many + 1 if row == "gate 1 2" else many
                    lines = end[:at] + [f"{row} {beyond - 1}"] + end[at:]
                    self.assertEqual(read("\n".join(lines))[at][-1], beyond - 1)
                    for goal in (beyond, beyond + 1, 61, 62, 99, 9999, 99999, -1):
                        lines[at] = f"{row} {goal}"
                        self.bad(at, "\n".join(lines))

    def test_as_many_lines_as_there_are(self):
        """A line that is no row counts as one for goals ahead of it."""
        self.bad(2, "go 2\nif 0 2\nwhat")
        self.bad(0, "go 3\nif 0 2\nwhat")
        self.bad(1, "gate 0 0 2\n")
        self.bad(0, "gate 0 0 3\n")

    def test_sixty_lines_and_more(self):
        self.assertEqual(read("\n".join(["end"] * 60)), (END,) * 60)
        for many in (61, 62, 70, 200):
            self.bad(60, "\n".join(["end"] * many))
            self.bad(60, "\n".join(["end"] * 60 + ["what"] * (many - 60)))
            self.bad(60, "\n".join(["go 60"] + ["end"] * (many - 1)))
            for at in (0, 30, 59):
                self.bad(at, "\n".join(["end"] * at + ["what"] + ["end"] * (many - at - 1)))
                self.bad(at, "\n".join(["end"] * at + [f"go {many}"] + ["end"] * (many - at - 1)))

    def test_texts_of_a_thousand_signs(self):
        self.bad(0, "e" * 1000)
        self.bad(0, " " * 1000)
        self.bad(0, "\n" * 1000)
        self.bad(0, "put 0 " + "1" * 994)
        self.bad(0, "put 0 -" + "0" * 993)
        self.bad(60, "\n".join(["fewer 0 1 ghls"] * 66))

    def test_texts_by_chance(self):
        """Texts with one sign changed, left out or put in are read only if what they are read to is written so."""
        chance = random.Random(1503)
        signs = " \n-0123456789abcdefghijklmnopqrstuvwxyzA_+.~!"
        for begin in some_begins(1504, 100, sizes=(1, 2, 5, 20)):
            text = written(begin.program)
            for _ in range(30):
                at = chance.randrange(len(text) + 1)
                other = text[:at] + chance.choice((chance.choice(signs), "")) + text[at + chance.randrange(2):]
                try:
                    program = read(other)
                except BadText as refused:
                    lines = other.split("\n")
                    self.assertIn(refused.line, range(len(lines)))
                    # All lines ahead are rows: with end rows from there on, and as many, they are a program.
                    rest = lines[:refused.line] + ["end"] * (len(lines) - refused.line)
                    self.assertEqual(written(read("\n".join(rest))), "\n".join(rest))
                    with self.assertRaises(BadText) as again:
                        read("\n".join(["end"] * refused.line + [lines[refused.line]] + rest[refused.line + 1:]))
                    self.assertEqual(again.exception.line, refused.line)
                else:
                    self.assertEqual(written(program), other)

    def test_programs_that_are_none(self):
        for row, program in ((0, ()), (60, (END,) * 61), (1, (END, ("go", 2))), (0, (("put", 8, 1),)),
                             (0, (("put", 0, 10000), ())), (2, (END, END, ("say", True))), (1, (END, "end")),
                             (0, (("fewer", 0, 1, "-"),)), (0, (("fewer", 0, 1, "sg"),)), (0, (("gate", 0, 0, 2),)),
                             (0, (("put", 0, "5"),)), (0, (("put", 0, ""),)), (0, "end"), (0, 5)):
            self.refused(BadProgram, {"row": row}, written, program)


if __name__ == "__main__":
    unittest.main()
