"""Large texts and trees: DOC.md [3] to [5], for all functions that take them."""

import sys
import time
import unittest

from treequill.blocks import scopes
from treequill.changing import compare, transform, visit
from treequill.errors import BadScope, NotLiteral
from treequill.literals import literal_eval
from treequill.nodes import Node, is_tree
from treequill.reading import parse
from treequill.walking import (
    copy_tree, dump, fix_missing_locations, increment_lineno, iter_child_nodes, source_segment, walk,
)
from treequill.writing import unparse

from helping import difference, nodes_in, place, read_again, refused
from table import KINDS

LONG = [
    "a + b - c * d\n" * 200,
    "f(a, b=c)\n" * 300,
    "(((((((a)))))))\n" * 150,
    "x = {a: b, c: [d for e in f if g]}\n" * 80,
    "f'{a}{b!r:>{c}}'\n" * 170,
    "with (" + "a, " * 900 + "b): pass",
    "with (" + "a, " * 900 + "b) as c: pass",
    "match " + "a, " * 900 + "b:\n case c: d",
    "match(" + "a, " * 900 + "b)",
    "x = '" + "a" * 2990 + "'",
    "x = " + "'a' " * 700,
    "x = [" + "1, " * 990 + "]",
    "x = " + "a = " * 700 + "b",
    "a.b\n" * 740,
    "#" * 2999,
    "\n" * 3000,
    "(" + " " * 2990 + "a)",
    "x = " + "9" * 200,
    "if a:\n  b\n" * 270,
    "if (" + "a or " * 590 + "b): c",
    "a < " * 700 + "b",
]
DEEP = [
    "(" * 20 + "a" + ")" * 20, "[" * 20 + "a" + "]" * 20, "{" * 20 + "a" + "}" * 20, "f(" * 20 + "a" + ")" * 20,
    "a[" * 20 + "a" + "]" * 20, "f'{" * 19 + "a" + "}'" * 19, "not " * 36 + "a", "-" * 36 + "a",
    "lambda: " * 36 + "a",
    "a if b else " * 36 + "c", "a ** " * 36 + "b", "a" + ".b" * 36, "a" + "()" * 36, "a" + " + b" * 36,
    "if a: b\n" + "elif a: b\n" * 34, "".join(" " * at + "if a:\n" for at in range(12)) + " " * 12 + "b",
    "".join(" " * at + "def f():\n" for at in range(12)) + " " * 12 + "return " + "(" * 20 + "not " * 20 + "a" + ")" * 20,
    "(" * 20 + "a" + ",)" * 20 + " = b", "[a for b in " * 18 + "c" + "]" * 18, "{a: " * 18 + "b" + "}" * 18,
    "match a:\n case " + "[" * 18 + "b" + "]" * 18 + ": c", "match a:\n case " + "(" * 20 + "b" + ")" * 20 + ": c",
    "(yield " * 18 + "a" + ")" * 18, "with (" * 1 + "(" * 18 + "a" + ")" * 18 + "): b",
    "a = " + "(b := " * 18 + "c" + ")" * 18,
]


NUMBERS = [
    "x = [" + ", ".join(["9" * 200] * 14) + "]",
    "x = {" + ", ".join(f"{at}: {'7' * 190}" for at in range(14)) + "}",
    "x = [" + "0x" + "f" * 160 + ", 0b" + "1" * 600 + ", 0o" + "7" * 200 + "]",
    "x = " + " + ".join(["1" * 30 + "." + "2" * 9 + "e-300", "9" * 40 + "e300", "." + "3" * 40 + "e-9999", "1e9999",
        "4" * 39 + ".e-9999", "0." + "0" * 38 + "1e9999", "7" * 40 + "j", "1e-320", "5e-324", "1.7976931348623157e308"]),
    "x = [" + ", ".join(f"{at}.{at}e{at * 7 - 300}" for at in range(1, 150)) + "]",
]
BLOCKS = [
    "".join(" " * at + word + "\n" for at, word in enumerate(["def f(a, b=c):", "class A(b):"] * 6)) + " " * 12 + "a = b",
    "\n".join(f"def f{at}(a, b{at}=c): return [a for d in b{at} if (e := d)]" for at in range(50)),
    "\n".join(f"class A{at}(b):\n  def f(c): nonlocal_ = c" for at in range(60)),
    "lambda: " + "[a for b in c if " * 15 + "d" + "]" * 15,
    "def f():\n" + "\n".join(f"  a{at} = lambda: a{at}" for at in range(110)),
    "def f():\n global " + ", ".join(f"a{at}" for at in range(300)) + "\n a1 = a2",
]


def great_tree():
    """Return a tree of 600 nodes, some of them with 40 nodes above them."""
    inner = Node("Name", "a")
    for at in range(33):
        inner = Node("UnaryOp", Node("Not" if at & 1 else "USub"), inner)
    wide = Node("List", [Node("Constant", at) for at in range(300)])
    pairs = Node("Dict", [Node("Constant", f"k{at}") for at in range(100)], [Node("Constant", None) for _ in range(100)])
    block = [Node("Expr", inner), Node("Expr", wide), Node("Expr", pairs)]
    for _ in range(5):
        block = [Node("While", Node("Constant", True), block)]
    return Node("Module", block)


class GreatTest(unittest.TestCase):
    """Every function answers within a moment."""

    def within_a_moment(self, call, *args):
        begin = time.perf_counter()
        found = call(*args)
        self.assertLess(time.perf_counter() - begin, 2)
        return found

    def all_calls(self, tree, text=None):
        moment = self.within_a_moment
        nodes = moment(walk, tree)
        self.assertEqual([id(node) for node in nodes], [id(node) for node in nodes_in(tree)])
        self.assertGreaterEqual(len(moment(dump, tree, True, True)), len(moment(dump, tree, True)))
        copy = moment(copy_tree, tree)
        self.assertIsNone(moment(compare, tree, copy, True))
        self.assertTrue(moment(is_tree, copy))
        self.assertIsNone(moment(compare, moment(transform, tree, {kind: lambda node: node for kind in KINDS}), tree, True))
        self.assertEqual(len(moment(visit, tree, {kind: place for kind in KINDS})), len(nodes))
        self.assertEqual(sum(len(iter_child_nodes(node)) for node in nodes), len(nodes) - 1)
        moment(fix_missing_locations, copy)
        moment(increment_lineno, copy, 5)
        self.assertIsNone(compare(tree, copy))
        written = moment(unparse, tree)
        self.assertIsNone(compare(tree, moment(parse, written)))
        try:
            self.assertEqual(moment(scopes, tree), scopes(copy))
        except BadScope:
            pass
        if text is not None:
            moment(lambda: [source_segment(text, node) for node in nodes])

    def test_great_programs(self):
        for text in LONG + DEEP + NUMBERS + BLOCKS:
            self.all_calls(parse(text), text)

    def test_a_great_tree(self):
        tree = great_tree()
        self.assertTrue(570 < len(nodes_in(tree)) <= 600)
        self.all_calls(tree)

    def test_few_hundred_calls(self):
        limit = sys.getrecursionlimit()
        frame, used = sys._getframe(), 0
        while frame is not None:
            frame, used = frame.f_back, used + 1
        try:
            sys.setrecursionlimit(used + 500)
            for tree in [parse(text) for text in DEEP + BLOCKS] + [great_tree()]:
                copy = copy_tree(tree)
                compare(copy, transform(tree, {}), True)
                dump(tree)
                walk(tree)
                fix_missing_locations(copy)
                unparse(tree)
                try:
                    scopes(tree)
                except BadScope:
                    pass
        finally:
            sys.setrecursionlimit(limit)

    def test_great_literals(self):
        for text in NUMBERS:
            value = text.removeprefix("x = ")
            try:
                self.within_a_moment(literal_eval, value)
            except NotLiteral as error:
                self.assertEqual(error.path, ("body",))
        self.assertEqual(literal_eval("[" + "9" * 200 + "]"), [10 ** 200 - 1])
        self.assertEqual(len(literal_eval("[" + "(1, -2), " * 300 + "]")), 300)
        self.assertEqual(len(literal_eval("{" + ", ".join(f"{at}: []" for at in range(320)) + "}")), 320)
        deep = literal_eval("[" * 19 + "{}" + "]" * 19)
        for _ in range(19):
            (deep,) = deep
        self.assertEqual(deep, {})

    def test_somewhat_beyond(self):
        node = Node("Name", "a")
        for _ in range(60):
            node = Node("UnaryOp", Node("Not"), node)
        tree = Node("Expression", node)
        self.assertIsNone(compare(copy_tree(tree), transform(tree, {})))
        self.assertEqual(len(walk(tree)), 123)
        self.assertEqual(dump(tree).count("Not()"), 60)
        self.assertEqual(scopes(tree), ("module", "top", [("a", "global")], []))


class LimitsTest(unittest.TestCase):
    def test_long_texts_are_answered_within_a_moment(self):
        for text in LONG:
            self.assertLessEqual(len(text), 3010)
            begin = time.perf_counter()
            tree = parse(text)
            written = unparse(tree)
            self.assertLess(time.perf_counter() - begin, 3, text[:40])
            self.assertIsNone(difference(tree, parse(written)), text[:40])

    def test_long_texts_that_are_refused(self):
        for text in LONG:
            begin = time.perf_counter()
            self.assertIsNotNone(refused(text[:2000] + "\n ?"))
            self.assertLess(time.perf_counter() - begin, 3, text[:40])

    def test_deep_texts(self):
        for text in DEEP:
            tree = parse(text)
            self.assertIsNone(difference(tree, parse(unparse(tree))), text[:40])

    def test_no_more_than_a_few_hundred_calls(self):
        limit = sys.getrecursionlimit()
        frame, used = sys._getframe(), 0
        while frame is not None:
            frame, used = frame.f_back, used + 1
        try:
            sys.setrecursionlimit(used + 500)
            for text in DEEP:
                unparse(parse(text))
        finally:
            sys.setrecursionlimit(limit)

    def test_a_wide_tree(self):
        names = [Node("Name", f"a{at}") for at in range(590)]
        for node in (Node("List", names), Node("BoolOp", Node("Or"), names),
            Node("Module", [Node("Expr", name) for name in names])):
            text = unparse(node)
            self.assertIsNone(difference(node, read_again(text, node)))

    def test_a_deep_tree(self):
        node = Node("Name", "a")
        for at in range(40):
            node = Node("UnaryOp", Node("Not"), node) if at & 1 else Node("Attribute", node, "b")
        self.assertIsNone(difference(node, read_again(unparse(node), node)))

    def test_what_was_returned_may_be_passed_again(self):
        tree = parse("x = [" + "(a, b), " * 370 + "]")
        text = unparse(tree)
        self.assertEqual(unparse(parse(text)), text)

    def test_nothing_is_shared_and_nothing_changed(self):
        text = "a, *b = [c for d in e], f(g, h=i)\nfor j in k: l\n@m\ndef n(o=p): q\ndel r.s\nf'{t:{u}}'"
        one, other = parse(text), parse(text)
        ids = [id(node) for node in nodes_in(one)]
        self.assertEqual(len(ids), len(set(ids)))
        self.assertFalse(set(ids) & {id(node) for node in nodes_in(other)})
        before = [(node.kind, place(node)) for node in nodes_in(one)]
        unparse(one)
        self.assertEqual([(node.kind, place(node)) for node in nodes_in(one)], before)
        self.assertIsNone(difference(one, other, True))


if __name__ == "__main__":
    unittest.main()
