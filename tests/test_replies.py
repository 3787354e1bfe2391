import unittest
from itertools import product

from reesblocks.build import (
    brandt, cyclic_group, direct_product, left_zero, null_semigroup, opposite, rectangular_band, right_zero, with_unit,
    with_zero,
)
from reesblocks.congruence import congruences
from reesblocks.factors import principal_factor
from reesblocks.green import egg_box, regular_elements
from reesblocks.homs import count_homomorphisms
from reesblocks.papers import identity_paper, inverse_paper, join_paper, pair_paper, rees_paper
from reesblocks.replies import Reply, defined, is_right, reply_to
from reesblocks.semigroup import Semigroup
from samples import (
    ALL_MAPS_OF_2, BAND_24, BRANDT_4, CHAIN_24, CYCLIC_24, GROUP_WITH_ZERO, LEFT_ZERO_24, NULL_24, SMALL,
    SYMMETRIC_GROUP_4, changed, deep, odd_values,
)

TWO = Semigroup([[0, 0], [0, 1]])
NAMES = {
    "one": Semigroup([[0]]), "a": TWO, "b": left_zero(2), "c": right_zero(2), "d": cyclic_group(4),
    "maps": ALL_MAPS_OF_2,
    "f": brandt(2), "g": CYCLIC_24, "h": LEFT_ZERO_24, "i": NULL_24, "k": SYMMETRIC_GROUP_4, "chain": CHAIN_24,
    "band": rectangular_band(2, 3), "zerogrp": GROUP_WITH_ZERO, "brandt": BRANDT_4, "wide": BAND_24, "free": SMALL[40],
}
ERROR_TEXT = ("error", "text", ())
NO_NAME = ("error", "refused name", ())
NO_ELEMENT = ("error", "refused element", ())
LARGE = ("error", "refused large", ())
MANY = ("error", "refused many", ())


def told(reply):
    return reply.kind, reply.text, reply.data


def semigroup(s):
    return "semigroup", str(s), ()


class Case(unittest.TestCase):
    def reply(self, line, wanted, names=None):
        names = NAMES if names is None else names
        before = dict(names)
        found = reply_to(names, line)
        self.assertIsInstance(found, Reply)
        self.assertEqual(told(found), wanted, line)
        self.assertEqual(names, before)
        self.assertIs(is_right(names, (line, found)), True, line)
        return found


class Replies(unittest.TestCase):
    def test_fields(self):
        self.assertEqual(told(Reply("a")), ("a", "", ()))
        self.assertEqual(told(Reply("a", "b")), ("a", "b", ()))
        self.assertEqual(told(Reply("a", "b", (1,))), ("a", "b", (1,)))
        self.assertEqual(told(Reply(kind="a", data=(2,), text="c")), ("a", "c", (2,)))

    def test_equality(self):
        data = [
            (), (0,), (1,), (True,), (False,), ((0,),), ((False,),), ("a",), (0, 0), (0, (1, True)), (0, (1, 1)), (None,),
        ]
        replies = [Reply(kind, text, some) for kind in ("a", "b") for text in ("", "a") for some in data]
        for (i, one), (k, other) in product(enumerate(replies), repeat=2):
            self.assertIs(one == other, i == k)
        self.assertIs(Reply("a", "b", (1, (2, True))) == Reply("a", "b", (1, (2, True))), True)

    def test_every_value(self):
        for value in odd_values():
            self.assertIs(Reply("a") == value, False)
            self.assertIs(Reply("a") == Reply("a", "", value), value == ())
            self.assertIs(Reply("a") == Reply("a", value), isinstance(value, str) and value == "")
            self.assertIs(Reply("a") == Reply(value), False)
        self.assertIs(Reply("a", "b") == ("a", "b", ()), False)
        far = deep(100000, tuple)
        self.assertIs(Reply("a", "", far) == Reply("a", "", deep(100000, tuple)), True)
        self.assertIs(Reply("a", "", far) == Reply("a", "", (deep(100000, tuple),)), False)


class Lines(Case):
    def test_definitions(self):
        told = [
            ("let x = 2: 0 0; 0 1", "x", TWO), ("let a = 1: 0", "a", Semigroup([[0]])),
            ("opposite x b", "x", right_zero(2)),
            ("zero x d", "x", with_zero(cyclic_group(4))), ("unit d d", "d", with_unit(cyclic_group(4))),
            ("product p a b", "p", direct_product(TWO, left_zero(2))),
            ("product p b a", "p", direct_product(left_zero(2), TWO)),
            ("factor x maps 0", "x", principal_factor(ALL_MAPS_OF_2, 0)), ("factor x f 4", "x", Semigroup([[0]])),
            ("unit let one", "let", with_unit(Semigroup([[0]]))), ("product p one g", "p", CYCLIC_24),
        ]
        for line, name, s in told:
            self.reply(line, semigroup(s))
            found = defined(NAMES, line)
            self.assertIsInstance(found, tuple)
            self.assertEqual(found, (name, s))
        for name, s in NAMES.items():
            for x in range(s.n):
                self.reply(f"factor x {name} {x}", semigroup(principal_factor(s, x)))
            self.reply(f"show {name}", semigroup(s))
            self.reply(f"opposite x {name}", semigroup(opposite(s)))

    def test_what_defines_nothing(self):
        for line in (
            "show a", "regular a", "box a 0", "maps a b", "congruences a", "alike a b", "joined a 0 1 0 0", "rees a",
            "inverse a",
            "identity a x y", "", "# let x = 1: 0", " # x", "let x", "opposite x", "opposite x nobody", "zero x g",
            "unit x i",
            "product x g g", "factor x a 2", "factor x nobody 0", "let x = 1: 1", "let x = nobody", "help",
        ):
            self.assertIsNone(defined(NAMES, line))
        self.assertIsNone(defined({}, "opposite x a"))
        self.assertEqual(defined({}, "let x = 1: 0"), ("x", Semigroup([[0]])))

    def test_elements_and_boxes(self):
        self.reply("regular a", ("elements", "0 1", (0, 1)))
        self.reply("regular i", ("elements", "0", (0,)))
        self.reply("box a 1", ("box", "1 1 1", (((1,),),)))
        self.reply("box d 3", ("box", "1 1 4", (((0, 1, 2, 3),),)))
        self.reply("box f 0", ("box", "2 2 1", (((0,), (1,)), ((2,), (3,)))))
        self.reply("box band 0", ("box", "2 3 1", (((0,), (1,), (2,)), ((3,), (4,), (5,)))))
        for name, s in NAMES.items():
            found = regular_elements(s)
            self.reply(f"regular {name}", ("elements", " ".join(str(x) for x in found), found))
            for x in range(0, s.n, 5):
                box = egg_box(s, x)
                self.reply(f"box {name} {x}", ("box", f"{len(box)} {len(box[0])} {len(box[0][0])}", box))

    def test_numbers(self):
        self.reply("maps b b", ("number", "4", ()))
        self.reply("maps g g", ("number", "24", ()))
        self.reply("congruences d", ("number", "3", ()))
        self.reply("congruences one", ("number", "1", ()))
        small = ["one", "a", "b", "c", "d", "maps", "f", "zerogrp"]
        for one, other in product(small, repeat=2):
            self.reply(f"maps {one} {other}", ("number", str(count_homomorphisms(NAMES[one], NAMES[other])), ()))
        for one in small:
            self.reply(f"congruences {one}", ("number", str(len(congruences(NAMES[one]))), ()))

    def test_papers(self):
        yes = ("isomorphic", "chain", "rees", "inverse", "holds")
        for name, s in NAMES.items():
            papers = [
                (f"rees {name}", rees_paper(s)), (f"inverse {name}", inverse_paper(s)),
                (f"identity {name} xyz zyx", identity_paper(s, "xyz", "zyx")),
                (f"alike {name} {name}", pair_paper(s, s)),
                (f"joined {name} 0 {s.n // 2} {s.n - 1} 0", join_paper(s, [(0, s.n // 2)], s.n - 1, 0)),
            ]
            for line, paper in papers:
                self.reply(line, (line.split()[0], "yes" if paper[0] in yes else "no", paper))
        for one, other in product(("one", "a", "b", "c", "d", "zerogrp"), repeat=2):
            paper = pair_paper(NAMES[one], NAMES[other])
            self.reply(f"alike {one} {other}", ("alike", "yes" if paper[0] == "isomorphic" else "no", paper))

    def test_texts_of_papers(self):
        texts = [
            ("alike a a", "yes"), ("alike b c", "no"), ("alike a one", "no"), ("joined d 0 2 1 3", "yes"),
            ("joined d 0 2 1 2", "no"),
            ("joined d 0 0 3 3", "yes"), ("rees d", "yes"), ("rees a", "yes"), ("rees maps", "no"), ("rees i", "no"),
            ("inverse d", "yes"),
            ("inverse b", "no"), ("inverse i", "no"), ("identity d xy yx", "yes"), ("identity k xy yx", "no"),
            ("rees one", "yes"),
        ]
        for line, text in texts:
            self.assertEqual(reply_to(NAMES, line).text, text, line)
        self.reply("identity a xy yx", ("identity", "yes", ("holds",)))

    def test_empty_lines(self):
        for line in ("", "   ", "#", "# show nobody", "#" + "x" * 1999):
            self.reply(line, ("done", "", ()))
            self.reply(line, ("done", "", ()), {})


class Errors(Case):
    def test_no_lines(self):
        lines = ["help", "rees", "rees A", "box a 100", "let a = 1: 1", " #", "show a" + " " * 1995, b"", ["rees a"]]
        for line in odd_values() + lines:
            if line != "":
                self.reply(line, ERROR_TEXT)
                self.assertIsNone(defined(NAMES, line))

    def test_names_come_first(self):
        for line in (
            "opposite a nobody", "zero x nobody", "unit x nobody", "product x a nobody", "product x nobody a",
            "factor x nobody 0",
            "factor x nobody 99", "show nobody", "regular nobody", "box nobody 0", "box nobody 99", "maps a nobody",
            "maps nobody a",
            "congruences nobody", "alike a nobody", "alike nobody a", "joined nobody 0 0 0 0", "joined nobody 99 0 0 0",
            "rees nobody", "inverse nobody", "identity nobody x y", "product x nobody g", "product x g nobody",
            "alike h nobody",
        ):
            self.reply(line, NO_NAME)
            self.reply(line, NO_NAME, {"a": TWO, "g": CYCLIC_24, "h": LEFT_ZERO_24})
        for line in ("show a", "opposite a a", "alike a a", "box a 99"):
            self.reply(line, NO_NAME, {})

    def test_elements_come_next(self):
        for line in (
            "factor x a 2", "factor x a 99", "box a 2", "box one 1", "box g 24", "joined a 2 0 0 0", "joined a 0 2 0 0",
            "joined a 0 0 2 0", "joined a 0 0 0 2", "joined g 0 1 2 24", "joined one 1 1 1 1",
        ):
            self.reply(line, NO_ELEMENT)

    def test_what_the_functions_raise(self):
        for line in ("zero x g", "unit x i", "product x g a", "product x d f", "zero g g"):
            self.reply(line, LARGE if line != "product x d f" else semigroup(direct_product(cyclic_group(4), brandt(2))))
        for line in ("maps h h", "maps i i", "congruences h", "congruences i", "alike h i", "alike i g"):
            self.reply(line, MANY)
        self.reply("congruences chain", MANY)
        # Isomorphic ones and such of unlike sizes need no numbers.
        self.assertEqual(reply_to(NAMES, "alike h h").text, "yes")
        self.assertEqual(reply_to(NAMES, "alike h b").data, ("sizes",))


class Entries(Case):
    def check(self, line, reply, truth, names=None):
        found = is_right(NAMES if names is None else names, (line, reply))
        if found is not truth:
            self.fail(f"{line}: {told(reply)}: {found}")

    def test_changed_replies(self):
        # All these have one reply that is right.
        for line in (
            "let x = 2: 0 0; 0 1", "opposite x b", "zero x d", "unit x a", "product x a b", "factor x maps 0",
            "show a", "regular d",
            "box f 1", "maps b b", "congruences d", "", "# x", "help", "show nobody", "box a 9", "zero x g",
            "maps h h", "alike h i",
            "regular a", "box a 1", "joined nobody 0 0 0 0", "joined a 0 0 0 9", "identity nobody x y",
        ):
            kind, text, data = told(reply_to(NAMES, line))
            self.check(line, Reply(kind, text, data), True)
            for other in changed(text):
                self.check(line, Reply(kind, other, data), isinstance(other, str) and other == text)
            for other in changed(kind):
                self.check(line, Reply(other, text, data), isinstance(other, str) and other == kind)
            for other in changed(data):
                same = self.same(other, data)
                self.check(line, Reply(kind, text, other), same)

    def same(self, one, other):
        if isinstance(one, tuple) and isinstance(other, tuple):
            return len(one) == len(other) and all(self.same(x, y) for x, y in zip(one, other))
        return type(one) is type(other) and one == other

    def test_true_and_false(self):
        self.check("regular a", Reply("elements", "0 1", (0, 1)), True)
        for data in ((False, True), (0, True), (False, 1), [0, 1]):
            self.check("regular a", Reply("elements", "0 1", data), False)
        self.check("box a 1", Reply("box", "1 1 1", (((1,),),)), True)
        self.check("box a 1", Reply("box", "1 1 1", (((True,),),)), False)
        self.check("alike one one", Reply("alike", "yes", ("isomorphic", (0,))), True)
        self.check("alike one one", Reply("alike", "yes", ("isomorphic", (False,))), False)
        self.check("joined a 0 1 0 1", Reply("joined", "yes", ("chain", ((-1, 0, -1, 0),))), True)
        self.check("joined a 0 1 0 1", Reply("joined", "yes", ("chain", ((-1, False, -1, 0),))), False)
        self.check("inverse a", Reply("inverse", "yes", ("inverse", (0, 1))), True)
        self.check("inverse a", Reply("inverse", "yes", ("inverse", (False, True))), False)

    def test_other_papers(self):
        for line, text, paper in (
            ("alike b b", "yes", ("isomorphic", (1, 0))), ("alike b a", "no", ("unlike", (0, 1), 4, 2)),
            ("joined d 0 2 1 3", "yes", ("chain", ((1, 0, -1, 0),))),
            ("joined d 0 2 1 3", "yes", ("chain", ((-1, 0, 1, 0),))),
            ("joined d 0 2 0 0", "yes", ("chain", ((-1, 0, -1, 0), (2, 0, -1, 0)))),
            ("joined d 0 0 0 1", "no", ("apart", (0, 1, 2, 3))), ("joined d 0 0 0 1", "no", ("apart", (0, 1, 0, 1))),
            ("rees maps", "no", ("ideal", (0, 3))), ("rees chain", "no", ("ideal", (0, 1, 2))),
            ("rees i", "no", ("ideal", (0, 5))),
            ("rees i", "no", ("null", 0)), ("rees b", "yes", ("rees", False, [[0]], [[0, 0]], (1, 0))),
            ("inverse b", "no", ("apart", 1, 0)), ("inverse i", "no", ("not", 17)),
            ("identity b xy yx", "no", ("fails", (1, 0, 1))),
            ("alike h i", "no", ("unlike", tuple(range(24)), 24 ** 24, 1)),
            ("alike h i", "no", ("unlike", (0,) * 24, 24, 1)),
        ):
            kind = line.split()[0]
            self.check(line, Reply(kind, text, paper), True)
            self.check(line, Reply(kind, "no" if text == "yes" else "yes", paper), False)
            for wrong in ("", text + " ", text.upper(), None, True, 1, (text,), [text]):
                self.check(line, Reply(kind, wrong, paper), False)
            for wrong in ("error", "done", "semigroup", None, True, "", kind + "s"):
                self.check(line, Reply(wrong, text, paper), False)
            self.check(line, Reply(kind, text, list(paper)), False)
            self.check(line, Reply(kind, text), False)

    def test_refused_or_shown(self):
        # The error is the reply that is told, and a paper is right as well.
        self.check("alike h i", Reply("error", "refused many"), True)
        self.check("alike h i", Reply("error", "refused large"), False)
        self.check("alike h i", Reply("error", "refused many", (0,)), False)
        self.check("alike h b", Reply("error", "refused many"), False)
        self.check("rees a", Reply("error", "refused many"), False)
        self.check("alike h nobody", Reply("alike", "no", ("sizes",)), False)
        self.check("joined a 0 0 0 9", Reply("joined", "yes", ("chain", ())), False)
        # Isomorphic ones with more isomorphisms than are listed anywhere.
        self.check("alike h h", Reply("alike", "yes", ("isomorphic", tuple(range(23, -1, -1)))), True)

    def test_definitions_that_hold(self):
        self.check("show a", Reply("semigroup", str(TWO)), True)
        self.check("show a", Reply("semigroup", str(TWO)), False, {"a": left_zero(2)})
        self.check("show a", Reply("error", "refused name"), True, {})
        self.check("rees a", Reply("error", "refused name"), True, {})
        self.check("rees a", Reply("error", "refused name"), False)

    def test_every_value(self):
        right = Reply("error", "text")
        for value in odd_values():
            self.assertIs(is_right(NAMES, value), False)
            for line in ("", "rees a", "show a", "help", "alike h i", "box nobody 0"):
                self.assertIs(is_right(NAMES, (line, value)), False)
            self.assertIs(is_right(NAMES, [value, right]), False)
            self.assertIs(is_right(NAMES, (value, right, right)), False)
            # A value that is no line has the reply of point 9.3, too.
            self.assertIs(is_right(NAMES, (value, right)), not isinstance(value, str) or value != "")
            for line in ("rees a", "show a", "help", "", "alike a b", "joined d 0 1 1 2", "inverse b", "identity b x y"):
                some = [Reply(value), Reply("rees", "yes", value), Reply("rees", value, ("null", 0))]
                for reply in some + [Reply("done", "", value)]:
                    truth = line == "" and reply.kind == "done" and isinstance(value, tuple) and value == ()
                    self.check(line, reply, truth)
            for line in ("alike a b", "joined d 0 1 1 2", "inverse b", "identity b x y", "rees d"):
                papers = [("chain", value), ("isomorphic", value), ("apart", value, value)]
                for data in [value, (value,), (value, value)] + papers:
                    for text in ("yes", "no", value):
                        self.check(line, Reply(line.split()[0], text, data), False)
        self.assertIs(is_right(NAMES, ["", Reply("done")]), False)
        self.assertIs(is_right(NAMES, ("", Reply("done"))), True)
        self.assertIs(is_right(NAMES, (None, Reply("done"))), False)
