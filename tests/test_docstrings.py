"""Docstrings: DOC.md [41]."""

import inspect
import itertools
import unittest

from treequill.errors import BadNode
from treequill.nodes import Node
from treequill.reading import parse
from treequill.values import Octets
from treequill.walking import get_docstring

from helping import NO_NODES, NO_NODES_BUT_STRINGS, nodes_in, snapshot
from table import KINDS, sample
from test_refused import PROGRAMS

DOCUMENTED = ("Module", "FunctionDef", "AsyncFunctionDef", "ClassDef")


def cleaned(text):
    """The rules of the document, line by line."""
    first, *others = text.split("\n")
    while first.startswith(" "):
        first = first[1:]
    counted = [line for line in others if line.replace(" ", "")]
    many = min([next(at for at, sign in enumerate(line) if sign != " ") for line in counted], default=0)
    lines = [first] + [line[many:] if len(line) > many else "" for line in others]
    if not counted:
        lines = [first] + others
    while lines and lines[0] == "":
        del lines[0]
    while lines and lines[-1] == "":
        del lines[-1]
    return "\n".join(lines)


def documented(text):
    """Return nodes of all four kinds with a docstring."""
    def statement():
        return Node("Expr", Node("Constant", text))
    return [
        Node("Module", [statement()]),
        Node("Module", [statement(), Node("Pass"), statement()]),
        Node("FunctionDef", "f", Node("arguments"), [statement()]),
        Node("AsyncFunctionDef", "f", Node("arguments"), [statement(), Node("Pass")]),
        Node("ClassDef", "A", body=[statement()]),
    ]


class DocstringTest(unittest.TestCase):
    def assert_docstring(self, text, wanted):
        for node in documented(text):
            before = snapshot(node)
            self.assertEqual(get_docstring(node), wanted, repr(text))
            self.assertEqual(get_docstring(node, True), wanted)
            self.assertEqual(get_docstring(node, clean=False), text)
            self.assertEqual(get_docstring(clean=True, node=node), wanted)
            self.assertEqual(snapshot(node), before)

    def test_the_example(self):
        self.assert_docstring("  a\n    b\n\n      c\n", "a\nb\n\n  c")

    def test_lines(self):
        for text, wanted in (
            ("", ""), ("a", "a"), ("  a", "a"), ("a  ", "a  "), ("   ", ""), ("\n", ""), ("\n\n", ""), ("a\n", "a"),
            ("\na", "a"), ("\n  a", "a"), ("\n  a\n b", " a\nb"), ("a\nb", "a\nb"), ("a\n  b\n   c", "a\nb\n c"),
            ("a\n\n\nb", "a\n\n\nb"), ("a\n  b\n\n", "a\nb"), ("\n\n a\n b\n\n", "a\nb"), ("a\n    ", "a\n    "),
            ("a\n  b\n    ", "a\nb\n  "), ("a\n    b\n  ", "a\nb"), ("a\n    b\n  \n    c", "a\nb\n\nc"),
            ("    \n  a", "a"), ("   a\nb", "a\nb"), ("a\n \n  ", "a\n \n  "), ("\n \n", " "), ("\n  \na\n", "  \na"),
            (" a \n  b \n", "a \nb "), ("\n\n   ", "   "), ("  \n  ", "  "),
        ):
            self.assert_docstring(text, wanted)

    def test_tabs_are_characters_like_others(self):
        for text, wanted in (
            ("\ta", "\ta"), (" \ta", "\ta"), ("a\n\tb\n  c", "a\n\tb\n  c"), ("a\n  \tb\n  c", "a\n\tb\nc"),
            ("a\n  \t\n    b", "a\n\t\n  b"), ("a\n\t", "a\n\t"), ("\t\na", "\t\na"), ("a\n \t\n", "a\n\t"),
            ("a\tb\n  c\td", "a\tb\nc\td"),
        ):
            self.assert_docstring(text, wanted)

    def test_all_short_strings(self):
        for many in range(7):
            for signs in itertools.product("a \n", repeat=many):
                text = "".join(signs)
                node = documented(text)[0]
                self.assertEqual(get_docstring(node), cleaned(text), repr(text))
                self.assertEqual(get_docstring(node), inspect.cleandoc(text), repr(text))
                self.assertEqual(get_docstring(node, False), text)
        for signs in itertools.product("a \n\t", repeat=5):
            text = "".join(signs)
            self.assertEqual(get_docstring(documented(text)[0]), cleaned(text), repr(text))

    def test_read_from_texts(self):
        text = "'''  A b.\n\n    c\n      d\n    '''\nclass A:\n    'e' ' f'\n    async def f():\n        r' \\g'; h\n"
        tree = parse(text)
        self.assertEqual(get_docstring(tree), "A b.\n\nc\n  d")
        self.assertEqual(get_docstring(tree, False), "  A b.\n\n    c\n      d\n    ")
        made = tree["body"][1]
        self.assertEqual(get_docstring(made), "e f")
        self.assertEqual(get_docstring(made["body"][1]), "\\g")
        self.assertEqual(get_docstring(made["body"][1], False), " \\g")
        self.assertEqual(get_docstring(parse("def f(): '''\n a'''")["body"][0]), "a")
        self.assertEqual(get_docstring(parse("('a'\n 'b')")), "ab")

    def test_none(self):
        for text in (
            "", "a", "a = 'b'", "b'a'", "f'a'", "'a' f'{b}'", "'a', 'b'", "'a'.b", "1", "...", "None", "pass\n'a'",
            "return 'a'", "'a' + 'b'", "-1", "True", "('a',)", "if a: 'b'", "def f(): 'a'", "yield 'a'",
        ):
            for clean in (True, False):
                self.assertIsNone(get_docstring(parse(text), clean))
                if text:
                    inner = "\n".join("  " + line for line in text.split("\n"))
                    for head in ("def f():", "async def f():", "class A:"):
                        self.assertIsNone(get_docstring(parse(f"{head}\n{inner}")["body"][0], clean), text)
        self.assertIsNone(get_docstring(Node("Module", [Node("Expr", Node("Constant", Octets((97,))))])))
        self.assertIsNone(get_docstring(Node("Module")))

    def test_other_kinds(self):
        seen = set()
        for node in [sample(kind) for kind in KINDS] + nodes_in(parse(PROGRAMS[1] + PROGRAMS[4])):
            if node.kind not in DOCUMENTED:
                seen.add(node.kind)
                for more in ((), (False,)):
                    with self.assertRaises(BadNode):
                        get_docstring(node, *more)
            else:
                self.assertIsNone(get_docstring(node))
        self.assertEqual(len(seen), len(KINDS) - 4)

    def test_what_is_no_node(self):
        for thing in NO_NODES + NO_NODES_BUT_STRINGS:
            for more in ((), (False,)):
                with self.assertRaises(BadNode):
                    get_docstring(thing, *more)


if __name__ == "__main__":
    unittest.main()
