import unittest
from random import Random

from reesblocks.console import Console
from reesblocks.log import first_wrong, read_data, read_log, write_data, write_log
from reesblocks.replies import Reply, reply_to
from reesblocks.semigroup import Semigroup
from samples import MALFORMED, NO_TEXT, changed, deep, error_of, is_number, odd_values

LINES = [
    "let a = 2: 0 0; 0 1", "identity a xy yx", "zero b a", "product c a b", "show c", "box c 3", "regular b",
    "alike a b",
    "alike c c", "joined c 0 1 2 5", "rees a", "inverse c", "", "# a remark", "box c 6", "show nobody", "wrong",
    "maps a c",
    "congruences c", "opposite d c", "unit a a", "rees a", "factor e c 5", "let a = 1: 0", "rees a", "let z = 1: 1",
]


def nested(many):
    value = ()
    for _ in range(many - 1):
        value = (value,)
    return value


def is_label(value):
    return isinstance(value, str) and 1 <= len(value) <= 12 and set(value) <= set("abcdefghijklmnopqrstuvwxyz") and (
        value not in ("true", "false")
    )


def is_plain(value, around=0):
    """Plain data by their definition; values of other kinds are not gone into."""
    if isinstance(value, tuple):
        return around < 20 and all(is_plain(item, around + 1) for item in value)
    return value is True or value is False or is_label(value) or is_number(value) and abs(value) < 10 ** 4000


def written(value):
    if isinstance(value, tuple):
        return "(" + " ".join(written(item) for item in value) + ")"
    return {True: "true", False: "false"}[value] if value is True or value is False else str(value)


def same(one, other):
    if isinstance(one, tuple) and isinstance(other, tuple):
        return len(one) == len(other) and all(same(x, y) for x, y in zip(one, other))
    return type(one) is type(other) and one == other


def entries():
    console = Console()
    for line in LINES:
        console.enter(line)
    return list(console)


PLAIN = [
    0, 1, -1, 10, -10, 99, 10 ** 3999, 10 ** 4000 - 1, 1 - 10 ** 4000, True, False, "a", "z", "abcdefghijkl", "truee",
    "falsehood", "none", (), (0,), ((),), ((), ()), (1, (2, 3)), (True, 1, False, 0), ("holds",),
    ("unlike", (0, 0), 4, 2),
    ("chain", ((-1, 0, -1, 1), (2, 0, 3, 0))), ("rees", True, ((0, 1), (1, 0)), ((-1, 0),), (0, 1, 2)), nested(20),
    nested(19),
    tuple(range(1000)), (nested(19), nested(19)), (("a", ("b", ("c", (True, ("d",))))), -5),
]


class Data(unittest.TestCase):
    def test_there_and_back(self):
        for data in PLAIN:
            text = write_data(data)
            self.assertEqual(text, written(data))
            found = read_data(text)
            self.assertTrue(same(found, data))

    def test_forms(self):
        told = [
            (0, "0"), (-5, "-5"), (120, "120"), (True, "true"), (False, "false"), ("abc", "abc"), ((), "()"),
            ((1,), "(1)"),
            ((1, "a", True), "(1 a true)"), (((), (-1, ())), "(() (-1 ()))"),
        ]
        for data, text in told:
            self.assertEqual(write_data(data), text)
            self.assertTrue(same(read_data(text), data))

    def test_depth(self):
        self.assertEqual(write_data(nested(20)), "(" * 20 + ")" * 20)
        self.assertEqual(read_data("(" * 20 + ")" * 20), nested(20))
        self.assertEqual(error_of(write_data, nested(21)), MALFORMED)
        self.assertEqual(error_of(read_data, "(" * 21 + ")" * 21), NO_TEXT)
        self.assertEqual(write_data(read_data("(" * 20 + "5 true" + ")" * 20)), "(" * 20 + "5 true" + ")" * 20)
        for many in (22, 100, 100000):
            self.assertEqual(error_of(write_data, nested(many)), MALFORMED)
            self.assertEqual(error_of(read_data, "(" * many + ")" * many), NO_TEXT)

    def test_other_values(self):
        more = ["true", "false", "A", "aB", "a1", "a b", "abcdefghijklm", "", "\u00e4", b"a", 10 ** 4000, -10 ** 4000]
        for value in odd_values() + more:
            # Deep ones are none, and are not gone into here.
            plain = not self.is_deep(value) and is_plain(value)
            self.assertEqual(error_of(write_data, value), None if plain else MALFORMED)
            for other in ((value,), (0, value), ((value, 0),)):
                self.assertEqual(error_of(write_data, other), None if plain else MALFORMED)
        for wrong in ([], [0], (0, [0]), (None,), ((), ((), None)), Semigroup([[0]]), ("true",), ("false", 1)):
            self.assertEqual(error_of(write_data, wrong), MALFORMED)

    def is_deep(self, value):
        for _ in range(30):
            if not isinstance(value, (list, tuple)) or not value:
                return False
            value = value[0]
        return True

    def test_wrong_texts(self):
        wrong = [
            "", " ", "(", ")", "(()", "())", ")(", "()()", "() ()", "1 2", "( )", "( 1)", "(1 )", "(1  2)", " 1",
            "1 ", "(1)(2)", "(1(2))",
            "((1)2)", "-0", "00", "01", "-01", "+1", "--1", "-", "1.0", "1e5", "(1,2)", "(1, 2)", "True", "(True)",
            "None", "A", "a1", "1a",
            "a-b", "abcdefghijklm", "(abcdefghijklm)", "'a'", "\"a\"", "1\n", "(1\n2)", "(1\t2)", "\n", "[1]", "0x1",
            "1_0", "\u0661",
            "\u00b2", "(\u00a0)", "1\u00a0", "a\u00e4", "9" * 4001, "-" + "9" * 4001, "(" + "9" * 5000 + ")",
            "0" * 5000, "#", "a" * 10000,
        ]
        for text in wrong:
            self.assertEqual(error_of(read_data, text), NO_TEXT, text[:50])
        self.assertEqual(read_data("9" * 4000), 10 ** 4000 - 1)
        self.assertEqual(read_data("-" + "9" * 4000), 1 - 10 ** 4000)

    def test_every_value(self):
        for value in odd_values():
            if isinstance(value, str) and value in ("0", "1"):
                self.assertEqual(read_data(value), int(value))
            else:
                self.assertEqual(error_of(read_data, value), NO_TEXT)

    def test_one_character_changed(self):
        signs = "() 01-atrue\n"
        for data in PLAIN:
            text = written(data)
            if len(text) < 60:
                for at in range(len(text) + 1):
                    others = [text[:at] + text[at + 1:]]
                    others += [text[:at] + sign + text[at:] for sign in signs]
                    others += [text[:at] + sign + text[at + 1:] for sign in signs]
                    for other in others:
                        self.check_text(other)

    def check_text(self, text):
        if error_of(read_data, text) is None:
            found = read_data(text)
            self.assertTrue(is_plain(found))
            self.assertEqual(written(found), text)
        else:
            self.assertEqual(error_of(read_data, text), NO_TEXT)

    def test_random_data(self):
        source = Random(7)

        def some(depth):
            kind = source.randrange(6) if depth < 6 else source.randrange(4)
            if kind < 4:
                return [source.randrange(-10 ** 9, 10 ** 9), source.random() < 0.5, source.choice("abcxyz") * 3, -1][kind]
            return tuple(some(depth + 1) for _ in range(source.randrange(5)))

        for _ in range(500):
            data = some(0)
            self.assertTrue(same(read_data(write_data(data)), data))
            self.assertEqual(write_data(data), written(data))


class Logs(unittest.TestCase):
    def test_there_and_back(self):
        every = entries()
        for part in (every, every[:1], every[5:9], []):
            text = write_log(part)
            self.assertEqual(text, "".join(
                f"> {line}\n= {reply.kind} {reply.text}\n# {written(reply.data)}\n" for line, reply in part
            ))
            found = read_log(text)
            self.assertIsInstance(found, list)
            self.assertEqual(found, part)
            for entry in found:
                self.assertIsInstance(entry, tuple)
                self.assertIsInstance(entry[1], Reply)

    def test_empty(self):
        self.assertEqual(write_log([]), "")
        self.assertEqual(read_log(""), [])

    def test_form(self):
        self.assertEqual(write_log([("", Reply("done"))]), "> \n= done \n# ()\n")
        self.assertEqual(read_log("> \n= done \n# ()\n"), [("", Reply("done"))])
        self.assertEqual(read_log("> >\n= a  b c \n# (1)\n"), [(">", Reply("a", " b c ", (1,)))])
        self.assertEqual(write_log([(" x\r", Reply("a", " = ", ("b",)))]), ">  x\r\n= a  = \n# (b)\n")
        self.assertEqual(read_log(">  x\r\n= a  = \n# (b)\n"), [(" x\r", Reply("a", " = ", ("b",)))])
        # Lines are ended by line feeds alone.
        for sign in ("\r", "\x0b", "\x0c", "\x1c", "\x85", "\u2028"):
            some = [(f"a{sign}b", Reply("a", f"{sign}", ()))]
            self.assertEqual(read_log(write_log(some)), some)

    def test_what_cannot_be_written(self):
        right = ("x", Reply("a", "b", (1,)))
        wrong = [
            None, 0, "", (), [], ("x",), ("x", Reply("a"), 0), ["x", Reply("a")], ("x", None), ("x", ("a", "b", ())),
            ("x\n", Reply("a")),
            ("\n", Reply("a")), (None, Reply("a")), (0, Reply("a")), (("x",), Reply("a")), ("x", Reply("")),
            ("x", Reply("A")),
            ("x", Reply("true")), ("x", Reply("false")), ("x", Reply("abcdefghijklm")), ("x", Reply("a b")),
            ("x", Reply(None)),
            ("x", Reply(0)), ("x", Reply("a", "\n")), ("x", Reply("a", "b\nc")), ("x", Reply("a", None)),
            ("x", Reply("a", 0)),
            ("x", Reply("a", ("b",))), ("x", Reply("a", "b", None)), ("x", Reply("a", "b", 0)),
            ("x", Reply("a", "b", "c")),
            ("x", Reply("a", "b", [])), ("x", Reply("a", "b", True)), ("x", Reply("a", "b", ([],))),
            ("x", Reply("a", "b", (None,))),
            ("x", Reply("a", "b", ("true",))), ("x", Reply("a", "b", nested(21))),
            ("x", Reply("a", "b", deep(100000, tuple))),
        ]
        self.assertIsNone(error_of(write_log, [right]))
        for entry in wrong:
            self.assertEqual(error_of(write_log, [entry]), MALFORMED)
            self.assertEqual(error_of(write_log, [right, entry, right]), MALFORMED)
        self.assertIsNone(error_of(write_log, [("x", Reply("a", "b", nested(20)))]))
        for value in odd_values():
            for some in ([value], [right, value], [("x", value)]):
                self.assertEqual(error_of(write_log, some), MALFORMED)
            text = isinstance(value, str)
            self.assertEqual(error_of(write_log, [(value, Reply("a"))]), None if text else MALFORMED)
            self.assertEqual(error_of(write_log, [("", Reply("a", value))]), None if text else MALFORMED)
            self.assertEqual(error_of(write_log, [("", Reply(value))]), None if is_label(value) else MALFORMED)
            if not isinstance(value, (list, tuple)):
                self.assertEqual(error_of(write_log, value), MALFORMED)

    def test_every_value(self):
        for value in odd_values():
            if value != "":
                wanted = ("NoText", 0)
                self.assertEqual(error_of(read_log, value), wanted)
        self.assertEqual(error_of(read_log, b""), ("NoText", 0))
        self.assertEqual(error_of(read_log, ["> ", "= done ", "# ()"]), ("NoText", 0))

    def test_spoilt_lines(self):
        text = write_log(entries()[:6])
        lines = text.split("\n")[:-1]
        spoilt = [
            ["", ">", "x", ">x", " > x", "= x", "# x", "\u203a x"],
            ["", "=", "= ", "= done", "=done ", "=  done", "= Done x", "= true x", "= abcdefghijklm x", "= a1 x", "> x",
             "# ()", " = a b", "=\ta b"],
            ["", "#", "# ", "# 5", "# a", "# true", "#()", "#  ()", "# () ", "# (1  2)", "# (01)", "# (A)", "# ()()", "# (",
             "()", "# ( )",
             "# [1]", "# " + "(" * 21 + ")" * 21],
        ]
        for at in range(len(lines)):
            for other in spoilt[at % 3]:
                some = lines[:at] + [other] + lines[at + 1:]
                self.assertEqual(error_of(read_log, "\n".join(some) + "\n"), ("NoText", at), (at, other))
                # The first wrong line counts.
                self.assertEqual(error_of(read_log, "\n".join(some + ["", "x"])), ("NoText", at))
                self.assertEqual(error_of(read_log, "\n".join(some[:at + 1]) + "\n"), ("NoText", at))
                if other != "" or at % 3 != 0:
                    self.assertEqual(error_of(read_log, "\n".join(some[:at + 1])), ("NoText", at))

    def test_spoilt_ends(self):
        text = write_log(entries()[:4])
        lines = text.split("\n")[:-1]
        for many in range(len(lines)):
            ended = "".join(line + "\n" for line in lines[:many])
            if many % 3:
                self.assertEqual(error_of(read_log, ended), ("NoText", many))
            else:
                self.assertEqual(len(read_log(ended)), many // 3)
            for part in (lines[many], lines[many][:2], lines[many][:1], "x", " "):
                self.assertEqual(error_of(read_log, ended + part), ("NoText", many))
        self.assertEqual(error_of(read_log, text + "\n"), ("NoText", len(lines)))
        self.assertEqual(error_of(read_log, "\n"), ("NoText", 0))
        self.assertEqual(error_of(read_log, "\n" + text), ("NoText", 0))
        self.assertEqual(error_of(read_log, text[:-1]), ("NoText", len(lines) - 1))
        self.assertEqual(error_of(read_log, "x"), ("NoText", 0))

    def test_lines_left_out_or_exchanged(self):
        lines = write_log(entries()[:5]).split("\n")[:-1]
        for at in range(len(lines)):
            without = "".join(line + "\n" for line in lines[:at] + lines[at + 1:])
            self.assertEqual(error_of(read_log, without), ("NoText", at))
            twice = "".join(line + "\n" for line in lines[:at + 1] + lines[at:])
            self.assertEqual(error_of(read_log, twice), ("NoText", at + 1) if at < 14 else ("NoText", 15))


class Wrong(unittest.TestCase):
    def test_right_logs(self):
        self.assertEqual(first_wrong([]), -1)
        self.assertEqual(first_wrong(entries()), -1)
        self.assertEqual(first_wrong(read_log(write_log(entries()))), -1)
        # The last definition of a name counts.
        last = ("rees a", Reply("rees", "yes", ("rees", False, ((0,),), ((0,),), (0,))))
        self.assertEqual(first_wrong([*entries(), last]), -1)
        self.assertEqual(first_wrong([*entries()[:5], last]), 5)

    def test_one_entry_changed(self):
        every = entries()
        for at, (line, reply) in enumerate(every):
            kind, text, data = reply.kind, reply.text, reply.data
            others = [
                (line, Reply("done" if kind != "done" else "error", text, data)), (line, Reply(kind, text + "x", data)),
                (line, Reply(kind, text, (*data, 0))), (line, None), (line, reply, 0), [line, reply], None, (),
            ]
            if (kind, text) != ("error", "text"):
                others += [("help", reply), (None, reply)]
            for other in others:
                self.assertEqual(first_wrong(every[:at] + [other] + every[at + 1:]), at, (line, other))
                self.assertEqual(first_wrong(every[:at] + [other]), at)
                self.assertEqual(first_wrong([*every[:at], other, None]), at)

    def test_definitions_are_replaced(self):
        one, two, other = "1: 0", "2: 0 0; 0 1", "2: 0 1; 1 1"
        told = [
            ("show a", Reply("error", "refused name")), (f"let a = {one}", Reply("semigroup", one)),
            ("show a", Reply("semigroup", one)), (f"let a = {two}", Reply("semigroup", two)),
            ("show a", Reply("semigroup", two)), ("let a = 2: 0 1; 0 0", Reply("error", "text")),
            ("show a", Reply("semigroup", two)), ("zero a nobody", Reply("error", "refused name")),
            ("show a", Reply("semigroup", two)), ("opposite a a", Reply("semigroup", two)),
            ("unit a a", Reply("semigroup", "3: 0 0 0; 0 1 1; 0 1 2")), ("factor a a 1", Reply("semigroup", other)),
            ("show a", Reply("semigroup", other)),
        ]
        self.assertEqual(first_wrong(told), -1)
        self.assertEqual(first_wrong(told[1:]), -1)
        # Where a definition is left out, the first line is wrong that asks for it.
        self.assertEqual(first_wrong(told[:1] + told[2:]), 1)
        self.assertEqual(first_wrong(told[:3] + told[4:]), 3)
        self.assertEqual(first_wrong(told[:11] + told[12:]), 11)
        self.assertEqual(first_wrong(told[:9] + told[10:]), -1)
        self.assertEqual(first_wrong(told[:3] + [told[1]] + told[3:]), -1)
        self.assertEqual(first_wrong(told[:4] + [told[1]] + told[4:]), 5)

    def test_definitions_come_from_lines(self):
        # A line defines its name, whatever its reply says; but then that entry is wrong first.
        told = [("let a = 1: 0", Reply("error", "text")), ("show a", Reply("semigroup", "1: 0"))]
        self.assertEqual(first_wrong(told), 0)

    def test_other_papers(self):
        definition = ("let b = 2: 0 0; 1 1", Reply("semigroup", "2: 0 0; 1 1"))
        for line, text, paper, truth in (
            ("alike b b", "yes", ("isomorphic", (1, 0)), True), ("alike b b", "yes", ("isomorphic", (1, 1)), False),
            ("rees b", "yes", ("rees", False, ((0,),), ((0, 0),), (1, 0)), True),
            ("rees b", "no", ("ideal", (0,)), False),
            ("inverse b", "no", ("apart", 1, 0), True), ("inverse b", "no", ("apart", True, False), False),
            ("identity b xy yx", "no", ("fails", (1, 0, 1)), True), ("identity b xy yx", "yes", ("holds",), False),
        ):
            entry = (line, Reply(line.split()[0], text, paper))
            self.assertEqual(first_wrong([definition, entry]), -1 if truth else 1)
            self.assertEqual(first_wrong(read_log(write_log([definition, entry]))), -1 if truth else 1)
            self.assertEqual(first_wrong([entry]), 0)

    def test_every_value(self):
        for value in odd_values():
            self.assertEqual(first_wrong([value]), 0)
            self.assertEqual(first_wrong([("", Reply("done")), value]), 1)
            self.assertEqual(first_wrong([("", Reply("done")), ("", value)]), 1)
            empty = isinstance(value, str) and value == ""
            self.assertEqual(first_wrong([(value, Reply("done"))]), -1 if empty else 0)
            self.assertEqual(first_wrong([(value, Reply("error", "text"))]), 0 if empty else -1)

    def test_changed_data(self):
        definition = ("let b = 3: 0 0 0; 0 1 1; 0 1 2", Reply("semigroup", "3: 0 0 0; 0 1 1; 0 1 2"))
        for line in ("regular b", "box b 1"):
            reply = reply_to({"b": Semigroup([[0, 0, 0], [0, 1, 1], [0, 1, 2]])}, line)
            self.assertEqual(first_wrong([definition, (line, reply)]), -1)
            for data in changed(reply.data):
                wanted = -1 if same(data, reply.data) else 1
                self.assertEqual(first_wrong([definition, (line, Reply(reply.kind, reply.text, data))]), wanted)
