import unittest

from reesblocks.build import cyclic_group, with_zero
from reesblocks.console import Console
from reesblocks.log import first_wrong, read_log, write_log
from reesblocks.replies import Reply, defined, reply_to
from reesblocks.semigroup import Semigroup
from samples import CYCLIC_24, error_of
from test_log import LINES

LINES_REFUSED = ("Refused", "lines")
TWO = Semigroup([[0, 0], [0, 1]])


class Entering(unittest.TestCase):
    def test_example(self):
        console = Console()
        self.assertEqual(console.enter("let a = 2: 0 0; 0 1").text, "2: 0 0; 0 1")
        self.assertEqual(console.enter("identity a xy yx").text, "yes")

    def test_replies_and_entries(self):
        console, names, entries = Console(), {}, []
        self.assertEqual((len(console), list(console), console.names(), console.log()), (0, [], {}, ""))
        for line in LINES:
            wanted = reply_to(names, line)
            found = console.enter(line)
            self.assertIsInstance(found, Reply)
            self.assertEqual(found, wanted)
            entries.append((line, wanted))
            pair = defined(names, line)
            if pair is not None:
                names[pair[0]] = pair[1]
            self.assertEqual(len(console), len(entries))
            self.assertEqual(list(console), entries)
            self.assertEqual(console.names(), names)
            self.assertEqual(console.log(), write_log(entries))
        self.assertEqual(read_log(console.log()), list(console))
        self.assertEqual(first_wrong(list(console)), -1)
        for entry in console:
            self.assertIsInstance(entry, tuple)
            self.assertEqual(len(entry), 2)

    def test_definitions(self):
        console = Console()
        console.enter("let a = 1: 0")
        self.assertEqual(console.names(), {"a": Semigroup([[0]])})
        console.enter("let a = 2: 0 0; 0 1")
        self.assertEqual(console.names(), {"a": TWO})
        # A line with an error leaves the earlier definition.
        for line in ("let a = 2: 0 1; 0 0", "zero a b", "factor a a 2", "unit a nobody", "let a =", "product a a"):
            self.assertEqual(console.enter(line).kind, "error")
            self.assertEqual(console.names(), {"a": TWO})
        console.enter("zero a a")
        self.assertEqual(console.names(), {"a": with_zero(TWO)})
        console.enter("show a")
        console.enter("let b = " + str(CYCLIC_24))
        self.assertEqual(console.enter("zero b b"), Reply("error", "refused large"))
        self.assertEqual(console.enter("unit a b"), Reply("error", "refused large"))
        self.assertEqual(console.names(), {"a": with_zero(TWO), "b": CYCLIC_24})

    def test_names_are_new(self):
        console = Console()
        console.enter("let a = 1: 0")
        names = console.names()
        names["b"] = cyclic_group(2)
        del names["a"]
        self.assertEqual(console.names(), {"a": Semigroup([[0]])})
        self.assertEqual(console.enter("show b").text, "refused name")
        self.assertIsNot(console.names(), console.names())

    def test_consoles_are_apart(self):
        one, other = Console(), Console()
        one.enter("let a = 1: 0")
        self.assertEqual((len(other), other.names()), (0, {}))
        self.assertEqual(other.enter("show a").text, "refused name")

    def test_wrong_lines(self):
        console = Console()
        for line in ("help", "x" * 2001, "\u00e4", "\t", "let", " #"):
            self.assertEqual(console.enter(line), Reply("error", "text"))
        self.assertEqual(len(console), 6)
        self.assertEqual(read_log(console.log()), list(console))


class Bound(unittest.TestCase):
    def check(self, console, most):
        for k in range(most):
            self.assertIsNone(error_of(console.enter, ("let a = 1: 0", "help", "", "show b")[k % 4]))
        before = len(console), list(console), console.names(), console.log()
        for line in ("let b = 1: 0", "", "help", "show a", "let a = 2: 0 0; 0 1"):
            self.assertEqual(error_of(console.enter, line), LINES_REFUSED)
            self.assertEqual((len(console), list(console), console.names(), console.log()), before)
        self.assertEqual(len(console), most)

    def test_bounds(self):
        for most in (0, 1, 2, 7):
            self.check(Console(most=most), most)
        self.check(Console(), 300)

    def test_keyword(self):
        with self.assertRaises(TypeError):
            Console(5)
        console = Console(most=301)
        for _ in range(301):
            console.enter("")
        self.assertEqual(error_of(console.enter, ""), LINES_REFUSED)
