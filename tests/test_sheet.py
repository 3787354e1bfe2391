import unittest

from reesblocks.semigroup import Semigroup
from reesblocks.sheet import read_line
from samples import NO_TEXT, SAMPLES, error_of, odd_values

TWO = Semigroup([[0, 0], [0, 1]])
RIGHT = [
    ("let a = 2: 0 0; 0 1", ("let", "a", TWO)), ("let abcdefgh = 1: 0", ("let", "abcdefgh", Semigroup([[0]]))),
    ("opposite b a", ("opposite", "b", "a")), ("zero b a", ("zero", "b", "a")), ("unit b a", ("unit", "b", "a")),
    ("product c a b", ("product", "c", "a", "b")), ("factor c a 3", ("factor", "c", "a", 3)), ("show a", ("show", "a")),
    ("regular a", ("regular", "a")), ("box a 0", ("box", "a", 0)), ("maps a b", ("maps", "a", "b")),
    ("congruences a", ("congruences", "a")), ("alike a b", ("alike", "a", "b")),
    ("joined a 0 1 23 99", ("joined", "a", 0, 1, 23, 99)), ("rees a", ("rees", "a")), ("inverse a", ("inverse", "a")),
    ("identity a xy yx", ("identity", "a", "xy", "yx")), ("", ("empty",)), ("#", ("empty",)),
    ("# let a = 1: 0", ("empty",)),
    ("#rees a", ("empty",)), ("   ", ("empty",)),
]


class Reading(unittest.TestCase):
    def wrong(self, *lines):
        for line in lines:
            self.assertEqual(error_of(read_line, line), NO_TEXT, repr(line)[:80])

    def right(self, line, command):
        found = read_line(line)
        self.assertEqual(found, command, repr(line)[:80])
        self.assertIsInstance(found, tuple)
        for value, wanted in zip(found, command):
            self.assertIs(type(value), type(wanted))

    def test_each_form(self):
        for line, command in RIGHT:
            self.right(line, command)

    def test_spaces(self):
        for line, command in RIGHT:
            if line and not line.startswith("#"):
                self.right("  " + line, command)
                self.right(line + "   ", command)
                if command[0] not in ("let", "empty"):
                    self.right(line.replace(" ", "   "), command)
                    self.right("  " + line.replace(" ", "  ") + " ", command)
        self.right("  let   a   =   2: 0 0; 0 1  ", ("let", "a", TWO))
        self.wrong(" #", "  # rees a", "\trees a", "rees\ta", "rees a\n", "rees\u00a0a")

    def test_tokens_left_out_or_more(self):
        for line, command in RIGHT:
            tokens = line.split()
            if tokens and not line.startswith("#"):
                for k in range(len(tokens)):
                    self.wrong_unless_other(" ".join(tokens[:k] + tokens[k + 1:]), command)
                    self.wrong_unless_other(" ".join(tokens[:k + 1] + tokens[k:]), command)
                self.wrong(line + " a", line + " 0", line + " x", line.upper(), "x" + line)

    def wrong_unless_other(self, line, command):
        # The only changes that leave a form are those of the text behind "let", which has to be checked on its own.
        if line.split() and line.split() != ["let"]:
            self.assertEqual(error_of(read_line, line), NO_TEXT, line)

    def test_names(self):
        for name in ("a", "z", "abcdefgh", "let", "show", "xyz", "zzzzzzzz"):
            self.right(f"show {name}", ("show", name))
            self.right(f"let {name} = 1: 0", ("let", name, Semigroup([[0]])))
            self.right(f"opposite {name} {name}", ("opposite", name, name))
        for name in ("abcdefghi", "A", "aB", "a1", "1", "a_", "a-", "=", "a=", "x" * 1000, "{", "`"):
            self.wrong(f"show {name}", f"let {name} = 1: 0", f"zero a {name}", f"zero {name} a", f"maps a {name}")

    def test_numbers(self):
        for number in range(100):
            self.right(f"box a {number}", ("box", "a", number))
            self.right(f"joined a 1 {number} 2 {99 - number}", ("joined", "a", 1, number, 2, 99 - number))
        for number in ("100", "00", "01", "09", "-1", "+1", "-0", "1.0", "1_0", "a", "x", "9" * 1000, "True", "1,"):
            self.wrong(f"box a {number}", f"factor b a {number}", f"joined a {number} 0 0 0", f"joined a 0 0 0 {number}")

    def test_kinds_of_tokens(self):
        # A token of another kind is none of the form, although it would be right elsewhere.
        self.wrong("show 5", "box a xy", "box 5 a", "joined a x 0 0 0", "joined 0 a 0 0 0", "factor a 0 b", "factor 0 a 0")
        self.wrong("identity a 0 x", "identity 0 x x", "identity a b x", "identity a x b", "maps a 0", "let 0 = 1: 0")

    def test_words(self):
        for word in ("x", "y", "z", "xyzxyzxyzxyz", "zzzzzzzzzzzz"):
            self.right(f"identity a {word} x", ("identity", "a", word, "x"))
            self.right(f"identity a z {word}", ("identity", "a", "z", word))
        for word in ("xyzxyzxyzxyzx", "a", "xa", "X", "x1", "0", "x" * 100, "x=y"):
            self.wrong(f"identity a {word} x", f"identity a x {word}")

    def test_definitions(self):
        for s in SAMPLES[::7]:
            self.right(f"let s = {s}", ("let", "s", s))
        self.right("let a =      1: 0", ("let", "a", Semigroup([[0]])))
        self.wrong(
            "let", "let a", "let a =", "let a = ", "let a=1: 0", "let a= 1: 0", "let a =1: 0", "let = 1: 0",
            "let a b = 1: 0", "let a = = 1: 0", "let a = 1: 0 =", "let a == 1: 0", "let a = 1:  0", "let a = 1 : 0",
            "let a = 2: 0 0;  0 1",
            "let a = 2: 0  0; 0 1", "let a = 2: 0 0 ; 0 1", "let a = 2: 0 0;0 1", "let a = 2: 0 0; 0 1;",
            "let a = 2: 0 1; 0 0",
            "let a = 1: 1", "let a = 0:", "let a = b", "let a = 1: 0 0", "let a = 01: 0", "let a : 1: 0",
            "Let a = 1: 0",
            "let a 1: 0 =", "= let a 1: 0", "let a = \"1: 0\"", "let a = " + str(SAMPLES[-2]) + " 0",
        )
        self.wrong("let a = 25: " + "; ".join([" ".join(["0"] * 25)] * 25))

    def test_lengths(self):
        self.right("rees a" + " " * 1994, ("rees", "a"))
        self.wrong("rees a" + " " * 1995)
        self.right(" " * 2000, ("empty",))
        self.wrong(" " * 2001)
        self.right("#" + "x" * 1999, ("empty",))
        self.wrong("#" + "x" * 2000)
        self.right(" " * 1980 + "let a = 2: 0 0; 0 1 ", ("let", "a", TWO))

    def test_characters(self):
        every = "".join(chr(k) for k in range(32, 127))
        self.right("# " + every, ("empty",))
        for sign in ("\n", "\t", "\r", "\x00", "\x1f", "\x7f", "\u00e4", "\u2028", "\u0661", "\ud800", "\U0001f600"):
            self.wrong("#" + sign, "rees a" + sign, sign, sign + "rees a", f"let a = 1: 0{sign}", f"show a {sign}")
        for sign in "\u0661\u00b2":
            self.wrong("box a " + sign)

    def test_unknown_commands(self):
        self.wrong("help", "quit", "reesa", "a", "rees", "rees a b", "show", "Show a", "semigroup a", "let let", "empty")
        self.wrong("rees a # why", "x # y", "0", "=", "!", "a = 1: 0", "read_line a", "get a", "keys")

    def test_every_value(self):
        for value in odd_values():
            if value == "":
                self.assertEqual(read_line(value), ("empty",))
            else:
                self.assertEqual(error_of(read_line, value), NO_TEXT)
        self.assertEqual(error_of(read_line, b"rees a"), NO_TEXT)
        self.assertEqual(error_of(read_line, ["rees a"]), NO_TEXT)
