"""Large texts and trees: DOC.md [3] to [5], as far as reading and writing are concerned."""

import sys
import time
import unittest

from treequill.nodes import Node
from treequill.reading import parse
from treequill.writing import unparse

from helping import difference, nodes_in, place, read_again, refused

LONG = [
    "a + b - c * d\n" * 200,
    "f(a, b=c)\n" * 300,
    "(((((((a)))))))\n" * 150,
    "x = {a: b, c: [d for e in f if g]}\n" * 80,
    "f'{a}{b!r:>{c}}'\n" * 170,
    "with (" + "a, " * 900 + "b): pass",
    "with (" + "a, " * 900 + "b) as c: pass",
    "match " + "a, " * 900 + "b:\n case c: d",
    "match(" + "a, " * 900 + "b)",
    "x = '" + "a" * 2990 + "'",
    "x = " + "'a' " * 700,
    "x = [" + "1, " * 990 + "]",
    "x = " + "a = " * 700 + "b",
    "a.b\n" * 740,
    "#" * 2999,
    "\n" * 3000,
    "(" + " " * 2990 + "a)",
    "x = " + "9" * 200,
    "if a:\n  b\n" * 270,
    "if (" + "a or " * 590 + "b): c",
    "a < " * 700 + "b",
]
DEEP = [
    "(" * 20 + "a" + ")" * 20, "[" * 20 + "a" + "]" * 20, "{" * 20 + "a" + "}" * 20, "f(" * 20 + "a" + ")" * 20,
    "a[" * 20 + "a" + "]" * 20, "f'{" * 19 + "a" + "}'" * 19, "not " * 36 + "a", "-" * 36 + "a",
    "lambda: " * 36 + "a",
    "a if b else " * 36 + "c", "a ** " * 36 + "b", "a" + ".b" * 36, "a" + "()" * 36, "a" + " + b" * 36,
    "if a: b\n" + "elif a: b\n" * 34, "".join(" " * at + "if a:\n" for at in range(12)) + " " * 12 + "b",
    "".join(" " * at + "def f():\n" for at in range(12)) + " " * 12 + "return " + "(" * 20 + "not " * 20 + "a" + ")" * 20,
    "(" * 20 + "a" + ",)" * 20 + " = b", "[a for b in " * 18 + "c" + "]" * 18, "{a: " * 18 + "b" + "}" * 18,
    "match a:\n case " + "[" * 18 + "b" + "]" * 18 + ": c", "match a:\n case " + "(" * 20 + "b" + ")" * 20 + ": c",
    "(yield " * 18 + "a" + ")" * 18, "with (" * 1 + "(" * 18 + "a" + ")" * 18 + "): b",
    "a = " + "(b := " * 18 + "c" + ")" * 18,
]


class LimitsTest(unittest.TestCase):
    def test_long_texts_are_answered_within_a_moment(self):
        for text in LONG:
            self.assertLessEqual(len(text), 3010)
            begin = time.perf_counter()
            tree = parse(text)
            written = unparse(tree)
            self.assertLess(time.perf_counter() - begin, 3, text[:40])
            self.assertIsNone(difference(tree, parse(written)), text[:40])

    def test_long_texts_that_are_refused(self):
        for text in LONG:
            begin = time.perf_counter()
            self.assertIsNotNone(refused(text[:2000] + "\n ?"))
            self.assertLess(time.perf_counter() - begin, 3, text[:40])

    def test_deep_texts(self):
        for text in DEEP:
            tree = parse(text)
            self.assertIsNone(difference(tree, parse(unparse(tree))), text[:40])

    def test_no_more_than_a_few_hundred_calls(self):
        limit = sys.getrecursionlimit()
        frame, used = sys._getframe(), 0
        while frame is not None:
            frame, used = frame.f_back, used + 1
        try:
            sys.setrecursionlimit(used + 500)
            for text in DEEP:
                unparse(parse(text))
        finally:
            sys.setrecursionlimit(limit)

    def test_a_wide_tree(self):
        names = [Node("Name", f"a{at}") for at in range(590)]
        for node in (Node("List", names), Node("BoolOp", Node("Or"), names),
            Node("Module", [Node("Expr", name) for name in names])):
            text = unparse(node)
            self.assertIsNone(difference(node, read_again(text, node)))

    def test_a_deep_tree(self):
        node = Node("Name", "a")
        for at in range(40):
            node = Node("UnaryOp", Node("Not"), node) if at & 1 else Node("Attribute", node, "b")
        self.assertIsNone(difference(node, read_again(unparse(node), node)))

    def test_what_was_returned_may_be_passed_again(self):
        tree = parse("x = [" + "(a, b), " * 370 + "]")
        text = unparse(tree)
        self.assertEqual(unparse(parse(text)), text)

    def test_nothing_is_shared_and_nothing_changed(self):
        text = "a, *b = [c for d in e], f(g, h=i)\nfor j in k: l\n@m\ndef n(o=p): q\ndel r.s\nf'{t:{u}}'"
        one, other = parse(text), parse(text)
        ids = [id(node) for node in nodes_in(one)]
        self.assertEqual(len(ids), len(set(ids)))
        self.assertFalse(set(ids) & {id(node) for node in nodes_in(other)})
        before = [(node.kind, place(node)) for node in nodes_in(one)]
        unparse(one)
        self.assertEqual([(node.kind, place(node)) for node in nodes_in(one)], before)
        self.assertIsNone(difference(one, other, True))


if __name__ == "__main__":
    unittest.main()
