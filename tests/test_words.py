"""Promises [1] and [2]: which values are words, and how numbers that come of others are taken."""

import itertools
import unittest

from tagmachine.words import (KINDS, common_rights, is_gate, is_key, is_number, is_rights, is_whole, is_word, kind_of,
                              moved, taken)

ODD = (True, False, "", "5", "key", "g", (), (0,), ("key",), ("gate",), (0, 0, 0, 0, ""))


def key(begin=0, end=64, at=0, rights="ghls"):
    return ("key", begin, end, at, rights)


class Numbers(unittest.TestCase):
    def test_the_stretch_and_the_next_ones_beyond(self):
        for number in (-10000, -9999, -1, 0, 1, 9998, 9999):
            self.assertTrue(is_number(number), number)
            self.assertTrue(is_word(number, 1), number)
        for number in (-10001, 10000, -20000, 20000, 10 ** 30, -10 ** 30):
            self.assertFalse(is_number(number), number)
            self.assertFalse(is_word(number, 60), number)

    def test_other_kinds_are_no_numbers(self):
        for value in ODD:
            self.assertFalse(is_number(value), value)
            self.assertFalse(is_whole(value, -10, 10), value)

    def test_whole_numbers_have_both_ends(self):
        told = [n for n in range(-6, 7) if is_whole(n, -2, 3)]
        self.assertEqual(told, [-2, -1, 0, 1, 2, 3])

    def test_answers_are_truths(self):
        for value in (*ODD, 0, key(), ("gate", 0, 0)):
            self.assertIn(is_word(value, 1), (True, False))
            self.assertIsInstance(is_word(value, 1), bool)


class Rights(unittest.TestCase):
    def test_each_choice_in_order_and_no_other_text(self):
        choices = {"".join(some) for many in range(5) for some in itertools.combinations("ghls", many)}
        self.assertEqual(len(choices), 16)
        for many in range(6):
            for letters in itertools.product("ghlsx", repeat=many):
                text = "".join(letters)
                self.assertEqual(is_rights(text), text in choices, text)

    def test_wrong_texts(self):
        for text in ("hg", "sg", "gg", "ghhs", "ghlsg", "G", "gs ", " gs", "g s", "-", "ghlss", "x"):
            self.assertFalse(is_rights(text), text)
            self.assertFalse(is_key(key(rights=text)), text)

    def test_other_kinds(self):
        for value in (0, 1, True, False, (), ("g",), ("g", "s")):
            self.assertFalse(is_rights(value), value)
            self.assertFalse(is_key(key(rights=value)), value)


class Keys(unittest.TestCase):
    def test_ordinary_keys(self):
        for value in (key(), key(3, 9, 5, "gs"), key(3, 9, -70, ""), key(63, 64, 0, "l")):
            self.assertTrue(is_key(value), value)
            self.assertTrue(is_word(value, 1), value)

    def test_every_begin_and_end(self):
        for begin in range(-2, 67):
            for end in range(-2, 67):
                self.assertEqual(is_key(key(begin, end)), 0 <= begin < end <= 64, (begin, end))

    def test_a_key_of_no_cells_and_of_all(self):
        for cell in (0, 1, 63, 64):
            self.assertFalse(is_word(key(cell, cell), 60), cell)
        self.assertFalse(is_word(key(5, 4), 60))
        self.assertTrue(is_word(key(0, 64), 60))
        self.assertFalse(is_word(key(0, 65), 60))
        self.assertFalse(is_word(key(-1, 64), 60))

    def test_at_is_a_number_as_a_word_also_off_its_cells(self):
        for at in (-10000, -1, 0, 64, 9999):
            self.assertTrue(is_word(key(2, 3, at), 1), at)
        for at in (-10001, 10000):
            self.assertFalse(is_word(key(2, 3, at), 1), at)

    def test_truths_and_other_kinds_in_the_place_of_numbers(self):
        for value in ODD:
            self.assertFalse(is_key(key(begin=value)), value)
            self.assertFalse(is_key(key(end=value)), value)
            self.assertFalse(is_key(key(at=value)), value)
        self.assertTrue(is_key(key(0, 1, 0)))
        self.assertTrue(is_key(key(1, 2, 1)))

    def test_other_tuples(self):
        wrong = (("key", 0, 64, 0), ("key", 0, 64, 0, "gs", 0), ("key",), ("Key", 0, 64, 0, "gs"),
                 (0, 64, 0, "gs"), ("gate", 0, 64, 0, "gs"), (0, 0, 64, 0, "gs"), (("key",), 0, 64, 0, "gs"),
                 ("key", (0, 64, 0, "gs")), (key(),), ["key", 0, 64, 0, "gs"], *ODD)
        for value in wrong:
            self.assertFalse(is_key(value), value)
            self.assertFalse(is_word(value, 60), value)

    def test_fewer_cells(self):
        self.assertTrue(is_key(key(0, 16), 16))
        self.assertFalse(is_key(key(0, 17), 16))
        self.assertTrue(is_key(key(15, 16), 16))
        self.assertFalse(is_key(key(16, 17), 16))
        self.assertFalse(is_word(key(0, 17), 1, 16))
        self.assertFalse(is_word(("gate", 0, key(0, 17)), 1, 16))
        self.assertTrue(is_word(("gate", 0, key(0, 16)), 1, 16))


class Gates(unittest.TestCase):
    def test_rows_up_to_as_many_as_there_are(self):
        for rows in (1, 2, 59, 60):
            for row in range(-2, 64):
                self.assertEqual(is_gate(("gate", row, 0), rows), 0 <= row <= rows, (row, rows))
                self.assertEqual(is_word(("gate", row, 0), rows), 0 <= row <= rows, (row, rows))

    def test_its_word_is_a_number_or_a_key(self):
        for word in (-10000, 0, 9999, key(), key(1, 2, -5, "")):
            self.assertTrue(is_word(("gate", 0, word), 1), word)
        for word in (-10001, 10000, key(0, 65), key(3, 3), key(rights="sg"), ("gate", 0, 0), ("gate", 0, key()), *ODD):
            self.assertFalse(is_word(("gate", 0, word), 1), word)

    def test_truths_and_other_kinds_in_the_place_of_its_row(self):
        for value in (*ODD, key(), ("gate", 0, 0)):
            self.assertFalse(is_gate(("gate", value, 0), 5), value)

    def test_other_tuples(self):
        wrong = (("gate", 0), ("gate", 0, 0, 0), ("gate",), ("Gate", 0, 0), ("key", 0, 0), (0, 0, 0), [("gate", 0, 0)],
                 ["gate", 0, 0], (("gate",), 0, 0))
        for value in wrong:
            self.assertFalse(is_gate(value, 5), value)
            self.assertFalse(is_word(value, 5), value)


class Kinds(unittest.TestCase):
    def test_each_kind(self):
        self.assertEqual(KINDS, ("number", "key", "gate"))
        for word, kind in ((0, "number"), (-10000, "number"), (9999, "number"), (key(), "key"), (key(at=-1), "key"),
                           (("gate", 0, 5), "gate"), (("gate", 0, key()), "gate")):
            self.assertEqual(kind_of(word), kind)

    def test_common_rights(self):
        choices = ["".join(some) for size in range(5) for some in itertools.combinations("ghls", size)]
        for rights, others in itertools.product(choices, choices):
            self.assertEqual(common_rights(rights, others), "".join(sorted(set(rights) & set(others))))


class Taken(unittest.TestCase):
    def test_numbers_in_the_stretch_stay(self):
        for number in (-10000, -9999, -1, 0, 1, 9999):
            self.assertEqual(taken(number), number)

    def test_numbers_beyond_either_end(self):
        pairs = ((10000, -10000), (10001, -9999), (-10001, 9999), (-10002, 9998), (19998, -2), (20000, 0),
                 (-20000, 0), (19999, -1), (-19999, 1), (30000, -10000), (29999, 9999), (-30000, -10000),
                 (-30001, 9999), (1000000, 0))
        for number, told in pairs:
            self.assertEqual(taken(number), told, number)

    def test_what_is_taken_is_a_word_with_the_same_rest(self):
        for number in range(-60000, 60000, 37):
            self.assertTrue(is_word(taken(number), 1), number)
            self.assertEqual((number - taken(number)) % 20000, 0, number)

    def test_a_keys_at_is_taken_too(self):
        for at, by, told in ((0, 5, 5), (9999, 1, -10000), (-10000, -1, 9999), (9999, 9999, -2),
                             (-10000, -10000, 0), (-10000, 10000, 0), (5, -7, -2)):
            given = key(3, 9, at, "gs")
            self.assertEqual(moved(given, by), ("key", 3, 9, told, "gs"), (at, by))
            self.assertEqual(given, ("key", 3, 9, at, "gs"))
            self.assertTrue(is_key(moved(given, by)))

    def test_asked_again_the_same_is_told(self):
        for ask in (lambda: taken(10000), lambda: moved(key(at=9999), 1), lambda: is_word(key(), 3)):
            self.assertEqual(ask(), ask())


if __name__ == "__main__":
    unittest.main()
