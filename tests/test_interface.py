"""The names, the arguments and the files of the interface, and the rules of the language that are cheap to check."""

import ast
import builtins
import importlib
import inspect
import unittest
from pathlib import Path

from reesblocks.console import Console
from reesblocks.rees import Rees
from reesblocks.replies import Reply
from reesblocks.semigroup import Semigroup

PACKAGE = Path(__file__).resolve().parent.parent / "reesblocks"

FUNCTIONS = {
    "whole": [
        "is_integer(value)", "is_equivalence(value, n)", "classes_of(pairs, n)", "by_keys(keys)", "joined(a, b)",
        "meet(a, b)", "refines(a, b)", "class_sets(classes)",
    ],
    "semigroup": ["read_semigroup(text)"],
    "parts": [
        "least_words(s, items)", "generated(s, items)", "left_ideal(s, items)", "right_ideal(s, items)",
        "ideal(s, items)", "least_ideal(s)", "is_subsemigroup(s, value)", "is_ideal(s, value)", "restricted(s, value)",
        "index_and_period(s, x)", "idempotent_power(s, x)",
    ],
    "build": [
        "null_semigroup(n)", "left_zero(n)", "right_zero(n)", "cyclic_group(n)", "rectangular_band(m, k)",
        "monogenic(index, period)", "brandt(m)", "semilattice(n, pairs)", "direct_product(a, b)", "opposite(s)",
        "with_zero(s)", "with_unit(s)", "relabeled(s, images)",
    ],
    "maps": [
        "is_transformation(value)", "is_partial(value)", "composed(f, g)", "generated_maps(maps)", "right_regular(s)",
        "is_synchronizing(maps)", "reset_word(maps)", "merging_word(maps, i, j)",
    ],
    "green": [
        "r_classes(s)", "l_classes(s)", "h_classes(s)", "d_classes(s)", "j_classes(s)", "r_at_most(s, x, y)",
        "l_at_most(s, x, y)", "j_at_most(s, x, y)", "egg_box(s, x)", "is_regular(s, x)", "regular_elements(s)",
        "is_group_class(s, x)", "group_at(s, e)",
    ],
    "factors": [
        "principal_factor(s, x)", "factor_kind(s, x)", "is_simple(s)", "is_zero_simple(s)", "is_null(s)",
    ],
    "groups": [
        "is_group_table(value)", "group_form(table)", "form_maps(table)", "group_isomorphisms(one, two)",
    ],
    "rees": ["coordinates(s)", "normal_form(data)", "to_form(data)", "alike(a, b)"],
    "congruence": [
        "is_congruence(s, value)", "generated(s, pairs)", "chain(s, pairs, x, y)", "class_numbers(classes)",
        "quotient(s, classes)", "congruences(s)", "value_of(s, word, values)", "least_with(s, identities)",
    ],
    "lattice": ["covers(s)", "atoms(s)", "monolith(s)", "moebius_numbers(s)"],
    "homs": [
        "is_homomorphism(a, b, images)", "homomorphisms(a, b)", "count_homomorphisms(a, b)", "one_to_one(a, b)",
        "find_isomorphism(a, b)", "automorphisms(s)", "count_by_congruences(a, b)", "unlike_congruence(a, b)",
    ],
    "inverse": [
        "inverses_of(s, x)", "is_inverse_semigroup(s)", "inverse_map(s)", "natural_at_most(s, x, y)",
        "group_congruence(s)", "representation(s)",
    ],
    "words": [
        "failing(s, left, right)", "holds(s, left, right)", "is_commutative(s)", "is_band(s)", "is_semilattice(s)",
        "is_rectangular(s)", "is_completely_regular(s)", "is_group(s)", "is_aperiodic(s)", "word_classes(s, letters, most)",
    ],
    "papers": [
        "pair_paper(a, b)", "join_paper(s, pairs, x, y)", "rees_paper(s)", "inverse_paper(s)",
        "identity_paper(s, left, right)",
    ],
    "checker": [
        "takes_pair(a, b, paper)", "takes_join(s, pairs, x, y, paper)", "takes_rees(s, paper)",
        "takes_inverse(s, paper)", "takes_identity(s, left, right, paper)",
    ],
    "sheet": ["read_line(line)"],
    "replies": ["reply_to(names, line)", "defined(names, line)", "is_right(names, entry)"],
    "log": ["write_data(data)", "read_data(text)", "write_log(entries)", "read_log(text)", "first_wrong(entries)"],
}

CLASSES = {
    "errors": ["Fault", "Malformed", "Refused", "NoText"], "semigroup": ["Semigroup"], "rees": ["Rees"],
    "replies": ["Reply"], "console": ["Console"],
}

METHODS = [
    (Semigroup, [
        "is_element(self, value)", "multiply(self, x, y)", "product(self, items)", "power(self, x, k)",
        "idempotents(self)", "zero(self)", "unit(self)", "__init__(self, table)", "__eq__(self, other)", "__str__(self)",
    ]),
    (Rees, [
        "__init__(self, zero, group, matrix)", "__eq__(self, other)", "size(self)", "number(self, i, g, k)",
        "triple(self, x)", "semigroup(self)",
    ]),
    (Reply, ["__init__(self, kind, text='', data=())", "__eq__(self, other)"]),
    (Console, [
        "__init__(self, *, most=300)", "enter(self, line)", "__len__(self)", "__iter__(self)", "names(self)", "log(self)",
    ]),
]

BUILTINS = set(
    "len range enumerate zip min max sum abs sorted reversed int str bool list tuple dict set isinstance ord repr any "
    "all divmod iter ValueError".split()
)
BUILTIN_METHODS = set(
    "append clear copy count endswith extend find get index insert isalnum isalpha isdigit islower isspace isupper "
    "items join keys ljust lower lstrip partition pop remove replace reverse rfind rjust rpartition rsplit rstrip "
    "setdefault split splitlines startswith strip update upper values zfill bit_length isascii removeprefix "
    "add".split()
)
BARRED = {"register", "mro", "elements", "open", "input", "law", "version_info", "with_traceback", "add_note"}


def told(function):
    return function.__name__ + str(inspect.signature(function))


class Interface(unittest.TestCase):
    def test_functions(self):
        for name, functions in FUNCTIONS.items():
            module = importlib.import_module("reesblocks." + name)
            for line in functions:
                function = getattr(module, line.partition("(")[0])
                self.assertEqual(told(function), line)
                self.assertEqual(function.__module__, module.__name__)

    def test_classes(self):
        for name, classes in CLASSES.items():
            module = importlib.import_module("reesblocks." + name)
            for line in classes:
                self.assertEqual(getattr(module, line).__module__, module.__name__)

    def test_methods(self):
        for one, lines in METHODS:
            for line in lines:
                self.assertEqual(told(vars(one)[line.partition("(")[0]]), line)


class Language(unittest.TestCase):
    def files(self):
        for path in sorted(PACKAGE.rglob("*.py")):
            text = path.read_text(encoding="utf-8")
            yield path.name, text, ast.parse(text)

    def test_sizes_and_characters(self):
        for name, text, tree in self.files():
            lines = text.split("\n")
            self.assertLessEqual(len(lines), 400, name)
            for line in lines:
                self.assertLessEqual(len(line), 120, name)
                self.assertTrue(all(" " <= character <= "~" for character in line), name)
            for node in ast.walk(tree):
                if isinstance(node, ast.FunctionDef):
                    self.assertLessEqual(node.end_lineno - node.lineno + 1, 40, node.name)

    def test_imports_name_the_files_of_their_names(self):
        defined = {}
        for name, _, tree in self.files():
            names = {node.name for node in tree.body if isinstance(node, (ast.FunctionDef, ast.ClassDef))}
            names |= {target.id for node in tree.body if isinstance(node, ast.Assign) for target in node.targets}
            defined["reesblocks." + name.removesuffix(".py")] = names
        for name, _, tree in self.files():
            for node in ast.walk(tree):
                self.assertNotIsInstance(node, ast.Import, name)
                if isinstance(node, ast.ImportFrom):
                    self.assertLessEqual({alias.name for alias in node.names}, defined[node.module], name)

    def test_builtins_and_methods(self):
        own, files = set(), list(self.files())
        for _, _, tree in files:
            for node in ast.walk(tree):
                if isinstance(node, ast.FunctionDef):
                    own.add(node.name)
                if isinstance(node, ast.Attribute) and isinstance(node.ctx, ast.Store):
                    own.add(node.attr)
        for name, _, tree in files:
            for node in ast.walk(tree):
                if isinstance(node, ast.Name) and node.id in dir(builtins):
                    self.assertIn(node.id, BUILTINS, name)
                if isinstance(node, ast.Attribute):
                    self.assertIn(node.attr, own | BUILTIN_METHODS, name)
                self.assertNotIsInstance(node, (ast.GeneratorExp, ast.Global, ast.AsyncFunctionDef), name)

    def test_barred_names_and_own_truths(self):
        for name, _, tree in self.files():
            for node in ast.walk(tree):
                for field in ("id", "attr", "arg", "name"):
                    self.assertNotIn(getattr(node, field, None), BARRED, name)
                # A class has an equality of its own, so these take lists.
                if isinstance(node, ast.Call) and getattr(node.func, "id", "") in ("any", "all", "min", "max", "sum"):
                    self.assertFalse(any(isinstance(argument, ast.GeneratorExp) for argument in node.args), name)
