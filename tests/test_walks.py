"""No loop of the package changes what it walks, by that name or by another one that the same thing has."""

import ast
import textwrap
import unittest
from pathlib import Path

PACKAGE = Path(__file__).resolve().parent.parent / "reesblocks"

CHANGING = set(
    "append clear extend insert pop remove reverse setdefault update sort add discard".split()
)
COMPREHENSIONS = (ast.ListComp, ast.SetComp, ast.DictComp, ast.GeneratorExp)

ANOTHER_NAME = """
    def f(level):
        while level:
            longer = []
            for x in {}:
                longer.append(x)
            level = longer
"""


def names_of(value):
    """The texts of the names, attributes and items one of which a value is, as a choice may have it."""
    if isinstance(value, (ast.Name, ast.Attribute, ast.Subscript)):
        return [ast.unparse(value)]
    if isinstance(value, ast.IfExp):
        return names_of(value.body) + names_of(value.orelse)
    if isinstance(value, ast.BoolOp):
        return [name for one in value.values for name in names_of(one)]
    return []


def walked_names(walked):
    """The texts of what a loop walks, also through enumerate and the like or a view of a dict."""
    if isinstance(walked, ast.Call) and getattr(walked.func, "id", "") in ("enumerate", "zip", "reversed", "iter"):
        return [name for one in walked.args for name in walked_names(one)]
    if isinstance(walked, ast.Call) and getattr(walked.func, "attr", "") in ("items", "keys", "values"):
        return names_of(walked.func.value)
    return names_of(walked)


def assigned_pairs(function):
    """The pairs of a target and a value of all assignments in a function."""
    for node in ast.walk(function):
        if isinstance(node, ast.Assign):
            for target in node.targets:
                yield target, node.value
                if isinstance(target, ast.Tuple) and isinstance(node.value, ast.Tuple):
                    yield from zip(target.elts, node.value.elts)
        elif isinstance(node, (ast.AnnAssign, ast.NamedExpr)):
            yield node.target, node.value


def same_things(function):
    """For each assigned name, attribute or item the set of those that are the same thing at some time.

    The order of the assignments does not count, since one turn of a loop comes behind another one.
    """
    same = {}
    for target, value in assigned_pairs(function):
        group = set()
        for name in (ast.unparse(target), *names_of(value)):
            group |= same.get(name, {name})
        same.update({name: group for name in group})
    return same


def changes(nodes):
    """The pairs of a line and the text of what is changed there, in a list of parts of a program."""
    for node in [node for top in nodes for node in ast.walk(top)]:
        if isinstance(node, ast.Call) and getattr(node.func, "attr", "") in CHANGING:
            yield node.lineno, ast.unparse(node.func.value)
        elif isinstance(node, ast.Subscript) and not isinstance(node.ctx, ast.Load):
            yield node.lineno, ast.unparse(node.value)
        elif isinstance(node, ast.AugAssign):
            yield node.lineno, ast.unparse(node.target)


def changed_walks(tree):
    """The ascending list of the lines in which a loop or a comprehension changes what it walks."""
    found = set()
    for function in [node for node in ast.walk(tree) if isinstance(node, ast.FunctionDef)]:
        same = same_things(function)
        for node in ast.walk(function):
            if isinstance(node, ast.For):
                walked, inside = walked_names(node.iter), node.body
            elif isinstance(node, COMPREHENSIONS):
                walked, inside = [name for one in node.generators for name in walked_names(one.iter)], [node]
            else:
                continue
            barred = {name for one in walked for name in same.get(one, {one})}
            found |= {line for line, name in changes(inside) if name in barred}
    return sorted(found)


class Walks(unittest.TestCase):
    def test_package(self):
        for path in sorted(PACKAGE.rglob("*.py")):
            self.assertEqual(changed_walks(ast.parse(path.read_text(encoding="utf-8"))), [], path.name)

    def test_what_is_found(self):
        cases = [
            (ANOTHER_NAME.format("level"), [6]),
            (ANOTHER_NAME.format("enumerate(level)"), [6]),
            (ANOTHER_NAME.format("level").replace("= longer", "= longer if x else None"), [6]),
            (ANOTHER_NAME.format("level").replace("level = longer", "level, many = longer, 1"), [6]),
            (ANOTHER_NAME.format("level").replace("level = longer", "other = longer\n        level = other"), [6]),
            ("def f(xs):\n for x in xs:\n  xs.pop()", [3]),
            ("def f(xs, ys):\n for x in xs or ys:\n  ys += [x]", [3]),
            ("def f(d):\n for x, y in d.items():\n  del d[x]", [3]),
            ("def f(self, xs):\n self.rows = xs\n for x in self.rows:\n  xs[x] = 1", [4]),
            ("def f(xs):\n return [xs.pop() for x in xs]", [2]),
        ]
        for text, lines in cases:
            self.assertEqual(changed_walks(ast.parse(textwrap.dedent(text))), lines, text)

    def test_what_is_allowed(self):
        cases = [
            ANOTHER_NAME.format("list(level)"),
            ANOTHER_NAME.format("level").replace("= longer", "= list(longer)"),
            "def f(d):\n for x, y in list(d.items()):\n  del d[x]",
            "def f(xs):\n ys = []\n for x in xs:\n  ys.append(x)\n return ys",
        ]
        for text in cases:
            self.assertEqual(changed_walks(ast.parse(textwrap.dedent(text))), [], text)
