import unittest

from reesblocks.errors import NoText
from reesblocks.semigroup import Semigroup, read_semigroup
from samples import NO_TEXT, SAMPLES, all_tables, error_of, is_associative, odd_values


def text_of(table):
    """The text of point 1.1, put together character by character."""
    text = str(len(table)) + ":"
    for k, row in enumerate(table):
        text += "".join(" " + str(x) for x in row)
        if k < len(table) - 1:
            text += ";"
    return text


def changed(text, characters):
    """All texts that come by leaving out, putting in or replacing one character."""
    for at in range(len(text) + 1):
        yield text[:at] + text[at + 1:]
        for character in characters:
            yield text[:at] + character + text[at:]
            yield text[:at] + character + text[at + 1:]


class Writing(unittest.TestCase):
    def test_texts(self):
        self.assertEqual(str(Semigroup([[0]])), "1: 0")
        self.assertEqual(str(Semigroup([[0, 0], [0, 1]])), "2: 0 0; 0 1")
        for s in SAMPLES:
            self.assertEqual(str(s), text_of(s.table))


class Reading(unittest.TestCase):
    def test_there_and_back(self):
        for s in SAMPLES:
            found = read_semigroup(text_of(s.table))
            self.assertIsInstance(found, Semigroup)
            self.assertEqual(found.table, s.table)

    def test_one_character_changed(self):
        right = {text_of(t): t for n in (1, 2, 3) for t in all_tables(n) if is_associative(t)}
        for text in ("1: 0", "2: 0 0; 0 1", "2: 0 1; 1 0", "3: 0 1 2; 1 2 0; 2 0 1"):
            for other in changed(text, " 0123;:,.+-_\n\tx\u0661\u00b2"):
                if other in right:
                    self.assertEqual(read_semigroup(other).table, right[other])
                else:
                    self.assertEqual(error_of(read_semigroup, other), NO_TEXT, other)

    def test_tables_without_semigroup(self):
        for table in all_tables(2):
            if not is_associative(table):
                self.assertEqual(error_of(read_semigroup, text_of(table)), NO_TEXT)
        for n in (25, 26, 100):
            self.assertEqual(error_of(read_semigroup, text_of([[0] * n] * n)), NO_TEXT)
        self.assertEqual(read_semigroup(text_of([[0] * 24] * 24)).n, 24)

    def test_wrong_texts(self):
        wrong = [
            "", " ", ":", "0:", "0: ", "1:", "1: ", "1:0", "1 : 0", " 1: 0", "1: 0 ", "1:  0", "1: 0\n", "1: 0;",
            "01: 0", "1: 00", "+1: 0", "1: +0", "1: -0", "2: 0 0; 0 1;", "2: 0 0 ; 0 1", "2: 0 0;0 1", "2: 0 0;  0 1",
            "2: 0  0; 0 1", "3: 0 0; 0 1", "1: 0 0; 0 1", "2: 0 0 0 1", "2: 0 0; 0", "2: 0 0; 0 2", "x: 0", "1: x",
            "1: 0: 0", "1: 1", "2:  0 0; 0 1", "2: 0 0; 0 1; 0 0", "1: " + "0" * 5000, "9" * 5000 + ": 0",
            "1: " + "9" * 5000, "2: 0 0; 0 True", "\u0661: \u0660", "1: \u0660", "1: \u00b2", "1:\t0", "2: 0 0;\n0 1",
            "1: 0\r", "2: 0,0; 0,1", "(2: 0 0; 0 1)", "None", "1: None",
        ]
        for text in wrong:
            self.assertEqual(error_of(read_semigroup, text), NO_TEXT, text[:50])

    def test_every_value(self):
        for value in odd_values():
            if value == "1: 0":
                self.assertEqual(read_semigroup(value).table, ((0,),))
            else:
                self.assertEqual(error_of(read_semigroup, value), NO_TEXT)

    def test_where(self):
        with self.assertRaises(NoText) as caught:
            read_semigroup("2: 0 0; 0 x")
        self.assertEqual(caught.exception.at, 0)
        self.assertIs(type(caught.exception.at), int)
