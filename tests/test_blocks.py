"""Names and blocks: DOC.md [49] to [52]."""

import symtable
import sys
import unittest
import warnings

from treequill.blocks import scopes
from treequill.errors import BadNode, BadScope
from treequill.nodes import Node
from treequill.reading import parse
from treequill.walking import copy_tree
from treequill.writing import unparse

from helping import NO_NODES, NO_NODES_BUT_STRINGS, nodes_in, snapshot
from maker import Maker
from scoping import Program, Writer
from table import KINDS, sample
from test_refused import PROGRAMS

# Before it, Python's own tables do not mix the names of comprehensions with those around them.
HAS_PLAIN_TABLES = sys.version_info < (3, 12)
TABLE_NAMES = {"listcomp": "ListComp", "setcomp": "SetComp", "dictcomp": "DictComp", "genexpr": "GeneratorExp"}
TABLE_WORDS = {1: "local", 2: "global", 3: "global", 4: "free", 5: "cell"}


def told(block):
    """Return a short text of a block: its names by words, and the blocks in it."""
    kind, name, names, inner = block
    words = " ".join(f"{one}:{word[0]}" for one, word in names)
    return f"{kind[0]} {name}({words})" + (f"[{'; '.join(told(part) for part in inner)}]" if inner else "")


def inner_of(text, *way, mode="exec"):
    """Return the names of a block, by the indexes of blocks that lead to it."""
    block = scopes(parse(text, mode))
    for index in way:
        block = block[3][index]
    return dict(block[2])


class BlocksTest(unittest.TestCase):
    def assert_blocks(self, text, wanted, mode="exec"):
        tree = parse(text, mode)
        before = snapshot(tree)
        self.assertEqual(told(scopes(tree)), wanted, text)
        self.assertEqual(snapshot(tree), before)

    def test_form(self):
        found = scopes(parse("def f(a): return lambda: (a, b)"))
        self.assertEqual(found, ("module", "top", [("f", "global")], [
            ("function", "f", [("a", "cell")], [("function", "lambda", [("a", "free"), ("b", "global")], [])]),
        ]))
        for block in (found, found[3][0], found[3][0][3][0]):
            self.assertEqual([type(part) for part in block], [str if at < 2 else list for at in range(4)])
            self.assertIs(type(block), tuple)
            self.assertEqual([type(pair) for pair in block[2]], [tuple] * len(block[2]))
        self.assertEqual(scopes(parse("")), ("module", "top", [], []))
        self.assertEqual(scopes(tree=parse("1", "eval")), ("module", "top", [], []))

    def test_kinds_and_names_of_blocks(self):
        self.assert_blocks(
            "def f(): pass\nasync def g(): pass\nclass A: pass\nlambda: 0\n[0 for a in b]\n{0 for a in b}\n"
            "{0: 0 for a in b}\n(0 for a in b)",
            "m top(A:g b:g f:g g:g)[f f(); f g(); c A(); f lambda(); c ListComp(a:l); c SetComp(a:l); c DictComp(a:l); "
            "c GeneratorExp(a:l)]",
        )
        self.assertEqual([part[0] for part in scopes(parse("class A: [a for a in b]"))[3]], ["class"])
        self.assertEqual(scopes(parse("class A: [a for a in b]"))[3][0][3][0][0], "comprehension")
        self.assert_blocks("a + (lambda b: c)", "m top(a:g)[f lambda(b:l c:g)]", "eval")

    def test_every_way_to_bind(self):
        for text, names in (
            ("a = 0", "a"), ("a, [b, *c] = 0", "abc"), ("a.b = 0", ""), ("a[b] = 0", ""), ("del a, (b, [c])", "abc"),
            ("del a.b", ""), ("a += 0", "a"), ("a: 0", "a"), ("a: 0 = 0", "a"), ("(a): 0", "a"), ("a.b: 0", ""),
            ("for a, b in 0: 0", "ab"), ("async for a in 0: 0", "a"), ("with 0 as a, 0 as (b, c): 0", "abc"),
            ("async with 0 as a: 0", "a"), ("import a", "a"), ("import a.b.c", "a"), ("import a.b as c", "c"),
            ("import a, b as c", "ac"), ("from a import b", "b"), ("from a import b as c, d", "cd"),
            ("from a import *", ""), ("from . import a", "a"), ("def a(): 0", "a"), ("async def a(): 0", "a"),
            ("class a: 0", "a"), ("try: 0\nexcept 0 as a: 0", "a"), ("try: 0\nexcept 0: 0", ""), ("(a := 0)", "a"),
            ("match 0:\n case a: 0", "a"), ("match 0:\n case _: 0", ""), ("match 0:\n case [*a]: 0", "a"),
            ("match 0:\n case [*_]: 0", ""), ("match 0:\n case 0 as a: 0", "a"), ("match 0:\n case {0: a, **b}: 0", "ab"),
            ("match 0:\n case a.b | A(c, d=e): 0", "ce"), ("match 0:\n case a | a: 0", "a"), ("[a for b in c]", ""),
            ("lambda a: b", ""), ("[0 for a in 0 if (b := 0)]", "b"), ("f'{(a := 0)}'", "a"), ("f(a=b)", ""),
        ):
            text = "def f():\n" + "\n".join("  " + line for line in text.split("\n"))
            found = [name for name, word in inner_of(text, 0).items() if word == "local"]
            self.assertEqual("".join(found), names, text)
        for text, names in (("a", "a"), ("a, /, b", "ab"), ("*a", "a"), ("a, *, b, **c", "abc"), ("*, a=0", "a"),
            ("a, /, b=0, *c, d, **e", "abcde"), ("", "")):
            self.assertEqual(inner_of(f"def f({text}): 0", 0), dict.fromkeys(names, "local"))
            self.assertEqual(inner_of(f"lambda {text}: 0", 0), dict.fromkeys(names, "local"))

    def test_what_belongs_to_the_block_around(self):
        for text, wanted in (
            ("@a\ndef f(b, c=d, *, e=g): h", "m top(a:g d:g f:g g:g)[f f(b:l c:l e:l h:g)]"),
            ("def f(a: b, /, c: d, *e: g, h: i, **j: k) -> l: m",
             "m top(b:g d:g f:g g:g i:g k:g l:g)[f f(a:l c:l e:l h:l j:l m:g)]"),
            ("lambda a, b=c, *, d=e: f", "m top(c:g e:g)[f lambda(a:l b:l d:l f:g)]"),
            ("@a\nclass A(b, *c, d=e, **f): g", "m top(A:g a:g b:g c:g e:g f:g)[c A(g:g)]"),
            ("[a for b in c for d in e if f]", "m top(c:g)[c ListComp(a:g b:l d:l e:g f:g)]"),
            ("{a: b for c in d}", "m top(d:g)[c DictComp(a:g b:g c:l)]"),
            ("[a for b in (lambda: c)]", "m top()[c ListComp(a:g b:l); f lambda(c:g)]"),
            ("[[a for b in c] for d in [e for f in g]]",
             "m top(g:g)[c ListComp(c:g d:l)[c ListComp(a:g b:l)]; c ListComp(e:g f:l)]"),
            ("def f(a=lambda: b, c=[d for e in g]): h",
             "m top(f:g g:g)[f f(a:l c:l h:g); f lambda(b:g); c ListComp(d:g e:l)]"),
            ("def f(a: (b := c)) -> (d := e): a", "m top(b:g c:g d:g e:g f:g)[f f(a:l)]"),
            ("lambda a=(b := c): b", "m top(b:g c:g)[f lambda(a:l b:g)]"),
            ("def f():\n  def g(a=b): b\n  b = 0", "m top(f:g)[f f(b:c g:l)[f g(a:l b:f)]]"),
            ("def f():\n  class A(b): c\n  b = c = 0", "m top(f:g)[f f(A:l b:l c:c)[c A(c:f)]]"),
            ("a[(lambda b: b)] = [c for d[e] in c]", "m top(a:g c:g)[f lambda(b:l); c ListComp(c:g d:g e:g)]"),
        ):
            self.assert_blocks(text, wanted)

    def test_the_order_of_inner_blocks_is_that_of_walk(self):
        found = scopes(parse("@(lambda: a)\ndef f(b: [0 for c in d] = {0 for c in d}) -> (0 for c in d): pass"))
        self.assertEqual([part[1] for part in found[3]], ["f", "ListComp", "SetComp", "lambda", "GeneratorExp"])
        found = scopes(parse("x = {(0 for a in b): [0 for a in b], {0 for a in b}: (lambda: 0)}"))
        self.assertEqual([part[1] for part in found[3]], ["GeneratorExp", "SetComp", "ListComp", "lambda"])
        found = scopes(parse("[0 for a in b] if (lambda: 0) else {0 for a in b}"))
        self.assertEqual([part[1] for part in found[3]], ["lambda", "ListComp", "SetComp"])

    def test_words(self):
        for text, wanted in (
            ("def f():\n  a = 0\n  def g(): a", "m top(f:g)[f f(a:c g:l)[f g(a:f)]]"),
            ("def f():\n  a = 0\n  def g(): a = 0", "m top(f:g)[f f(a:l g:l)[f g(a:l)]]"),
            ("def f():\n  a\n  def g(): a = 0", "m top(f:g)[f f(a:g g:l)[f g(a:l)]]"),
            ("a = 0\ndef f(): a", "m top(a:g f:g)[f f(a:g)]"),
            ("def f(): global a; a = 0", "m top(f:g)[f f(a:g)]"),
            ("def f(a):\n  def g():\n    def h(): a", "m top(f:g)[f f(a:c g:l)[f g(a:f h:l)[f h(a:f)]]]"),
            ("def f(a):\n  def g():\n    nonlocal a", "m top(f:g)[f f(a:c g:l)[f g(a:f)]]"),
            ("def f(a):\n  def g():\n    nonlocal a\n    def h(): a", "m top(f:g)[f f(a:c g:l)[f g(a:f h:l)[f h(a:f)]]]"),
            ("def f(a):\n  def g():\n    global a\n    def h(): a", "m top(f:g)[f f(a:l g:l)[f g(a:g h:l)[f h(a:g)]]]"),
            ("def f(a):\n  def g():\n    global a\n    a = 0\n    def h(): a",
             "m top(f:g)[f f(a:l g:l)[f g(a:g h:l)[f h(a:g)]]]"),
            ("def f(a):\n  class A:\n    a = 0\n    def g(b): a", "m top(f:g)[f f(A:l a:c)[c A(a:l g:l)[f g(a:f b:l)]]]"),
            ("def f(a):\n  class A:\n    def g(b): a", "m top(f:g)[f f(A:l a:c)[c A(a:f g:l)[f g(a:f b:l)]]]"),
            ("def f(a):\n  class A:\n    global a\n    def g(b): a", "m top(f:g)[f f(A:l a:c)[c A(a:g g:l)[f g(a:f b:l)]]]"),
            ("def f(a):\n  class A:\n    nonlocal a\n    a = 0", "m top(f:g)[f f(A:l a:c)[c A(a:f)]]"),
            ("class A:\n  a = 0\n  def f(b): a", "m top(A:g)[c A(a:l f:l)[f f(a:g b:l)]]"),
            ("class A:\n  a = 0\n  [a for b in a]", "m top(A:g)[c A(a:l)[c ListComp(a:g b:l)]]"),
            ("def f(): [a for a in b]", "m top(f:g)[f f(b:g)[c ListComp(a:l)]]"),
            ("def f(b): [a for a in b]", "m top(f:g)[f f(b:l)[c ListComp(a:l)]]"),
            ("def f(b): [b for a in 0]", "m top(f:g)[f f(b:c)[c ListComp(a:l b:f)]]"),
            ("[lambda: a for a in b]", "m top(b:g)[c ListComp(a:c)[f lambda(a:f)]]"),
            ("[[a for b in c] for a in d]", "m top(d:g)[c ListComp(a:c c:g)[c ListComp(a:f b:l)]]"),
            ("[lambda: lambda: a for a in b]", "m top(b:g)[c ListComp(a:c)[f lambda(a:f)[f lambda(a:f)]]]"),
            ("lambda a: lambda a: a", "m top()[f lambda(a:l)[f lambda(a:l)]]"),
            ("def f():\n  global a\n  class A:\n    a", "m top(f:g)[f f(A:l a:g)[c A(a:g)]]"),
            ("def f(a):\n  class A:\n    a", "m top(f:g)[f f(A:l a:c)[c A(a:f)]]"),
            ("def f(a): del a", "m top(f:g)[f f(a:l)]"),
            ("global a", "m top(a:g)"), ("global a, b\na = 0", "m top(a:g b:g)"),
            ("def f():\n  def g(): f", "m top(f:g)[f f(g:l)[f g(f:g)]]"),
            ("def f():\n  def f(): f", "m top(f:g)[f f(f:c)[f f(f:f)]]"),
            ("class A:\n  class A: A", "m top(A:g)[c A(A:l)[c A(A:g)]]"),
        ):
            self.assert_blocks(text, wanted)

    def test_named_expressions(self):
        for text, wanted in (
            ("def f(): [(a := b) for b in c]", "m top(f:g)[f f(a:l c:g)[c ListComp(b:l)]]"),
            ("def f(): [(a := b, a) for b in c]", "m top(f:g)[f f(a:c c:g)[c ListComp(a:f b:l)]]"),
            ("[(a := b, a) for b in c]", "m top(a:g c:g)[c ListComp(a:g b:l)]"),
            ("lambda: [[(a := b) for c in d] for e in f]",
             "m top()[f lambda(a:l f:g)[c ListComp(d:g e:l)[c ListComp(b:g c:l)]]]"),
            ("def f(): [[a for b in c if (a := b)] for d in e]",
             "m top(f:g)[f f(a:c e:g)[c ListComp(a:f c:g d:l)[c ListComp(a:f b:l)]]]"),
            ("def f():\n  global a\n  [a := b for b in c]", "m top(f:g)[f f(a:g c:g)[c ListComp(b:l)]]"),
            ("def f(a):\n  def g():\n    nonlocal a\n    [a := b for b in c]",
             "m top(f:g)[f f(a:c g:l)[f g(a:f c:g)[c ListComp(b:l)]]]"),
            ("class A: (a := 0)", "m top(A:g)[c A(a:l)]"),
            ("class A: [lambda: (a := b) for b in c]", "m top(A:g)[c A(c:g)[c ListComp(b:c)[f lambda(a:l b:f)]]]"),
            ("[lambda a=(b := a): c for a in d]", "m top(b:g d:g)[c ListComp(a:l)[f lambda(a:l c:g)]]"),
        ):
            self.assert_blocks(text, wanted)

    def test_random_programs(self):
        right = wrong = 0
        for seed in range(700):
            tree = parse(Writer(seed).program(3 if seed & 1 else 4))
            self.assert_as_told(tree)
            right, wrong = (right + 1, wrong) if Program(tree).fault() is None else (right, wrong + 1)
        self.assertGreater(min(right, wrong), 150)

    def assert_as_told(self, tree):
        program = Program(tree)
        fault = program.fault()
        if fault is None:
            self.assertEqual(scopes(tree), program.told(), unparse(tree))
            return
        with self.assertRaises(BadScope) as caught:
            scopes(tree)
        found = caught.exception.name, caught.exception.lineno, caught.exception.col_offset
        self.assertEqual(found, fault, unparse(tree))

    def test_random_trees_without_places(self):
        for seed in range(8500, 8600):
            tree = Maker(seed).tree()
            if tree.kind in ("Module", "Expression"):
                self.assert_as_told(tree)
        for seed in range(100):
            tree = parse(unparse(parse(Writer(seed, "ab").program(3))))
            for node in nodes_in(tree):
                node.lineno = node.col_offset = None
            self.assert_as_told(tree)

    def test_whole_programs(self):
        for text in PROGRAMS:
            self.assert_as_told(parse(text))

    def test_names_that_are_exchanged(self):
        exchange = {"a": "d", "b": "c", "c": "a", "d": "b"}

        def turned(block):
            kind, name, names, inner = block
            if kind in ("function", "class"):
                name = exchange.get(name, name)
            names = sorted((exchange.get(one, one), word) for one, word in names)
            return kind, name, names, [turned(part) for part in inner]

        compared = 0
        for seed in range(1000, 1120):
            tree = parse(Writer(seed).program(3))
            other = copy_tree(tree)
            for node in nodes_in(other):
                for field in {"Name": ["id"], "arg": ["arg"], "FunctionDef": ["name"], "AsyncFunctionDef": ["name"],
                    "ClassDef": ["name"], "ExceptHandler": ["name"], "MatchStar": ["name"], "MatchAs": ["name"],
                    "MatchMapping": ["rest"], "alias": ["name", "asname"]}.get(node.kind, []):
                    if node[field] is not None:
                        node[field] = ".".join(exchange.get(part, part) for part in node[field].split("."))
                if node.kind in ("Global", "Nonlocal"):
                    node["names"] = [exchange.get(one, one) for one in node["names"]]
            try:
                found = scopes(tree)
            except BadScope as error:
                with self.assertRaises(BadScope) as caught:
                    scopes(other)
                self.assertEqual(caught.exception.name, exchange.get(error.name, error.name))
                self.assertEqual(caught.exception.lineno, error.lineno)
                self.assertEqual(caught.exception.col_offset, error.col_offset)
            else:
                compared += 1
                self.assertEqual(scopes(other), turned(found))
        self.assertGreater(compared, 30)

    def test_the_same_blocks_however_it_is_written(self):
        for seed in range(1200, 1260):
            tree = parse(Writer(seed).program(3))
            try:
                found = scopes(tree)
            except BadScope:
                continue
            self.assertEqual(scopes(parse(unparse(tree))), found)
            self.assertEqual(scopes(copy_tree(tree)), found)

    @unittest.skipUnless(HAS_PLAIN_TABLES, "Python's own tables mix blocks")
    def test_as_in_python(self):
        compared = 0
        with warnings.catch_warnings():
            warnings.simplefilter("ignore")
            for seed in range(2000, 2300):
                text = Writer(seed, plain=True).program(4)
                try:
                    table = symtable.symtable(text, "a", "exec")
                except SyntaxError:
                    with self.assertRaises(BadScope):
                        scopes(parse(text))
                    continue
                compared += 1
                self.assert_table(scopes(parse(text)), table, text)
        self.assertGreater(compared, 80)

    def assert_table(self, block, table, text):
        kind, name, names, inner = block
        self.assertEqual(name, TABLE_NAMES.get(table.get_name(), table.get_name()), text)
        if kind != "module":
            words = {one.get_name(): TABLE_WORDS[one._Symbol__scope] for one in table.get_symbols()}
            self.assertEqual(dict(names), {one: word for one, word in words.items() if one != ".0"}, text)
        # Python's blocks stand in an order of its own.
        by_names = {}
        for part in table.get_children():
            by_names.setdefault(TABLE_NAMES.get(part.get_name(), part.get_name()), []).append(part)
        self.assertEqual(sorted(part[1] for part in inner),
            sorted(one for one, parts in by_names.items() for _ in parts), text)
        for part in inner:
            if len(by_names[part[1]]) == 1:
                self.assert_table(part, by_names[part[1]][0], text)

    def test_deep_and_wide(self):
        text = "".join(" " * at + f"def f{at}(a{at}):\n" for at in range(12)) + " " * 12 + "a0, a5, a11, b"
        found = scopes(parse(text))
        for at in range(12):
            found = found[3][0]
            names = dict(found[2])
            self.assertEqual(names[f"a{at}"], "cell" if at in (0, 5) else "local")
            self.assertEqual(names.get("a0"), "cell" if at == 0 else "free")
            self.assertEqual(names.get("a5"), None if at < 5 else "cell" if at == 5 else "free")
            self.assertEqual(names.get("b"), "global" if at == 11 else None)
        text = "(lambda a: " * 18 + "a" + ")" * 18
        self.assertEqual(told(scopes(parse(text))).count("a:l"), 18)
        text = "[" * 18 + "a" + "".join(f" for b{at} in (a, b{at + 1})]" for at in range(18))
        self.assert_as_told(parse(text))
        text = "\n".join(f"def f{at}(): a{at}" for at in range(150))
        self.assertEqual(len(scopes(parse(text))[3]), 150)
        names = scopes(parse("f(" + ", ".join(f"a{at}" for at in range(300)) + ")"))[2]
        self.assertEqual(names, sorted(names))
        self.assertEqual(len(names), 301)

    def test_results_are_new(self):
        tree = parse("def f(a): return [a for b in c]")
        first, wanted = scopes(tree), scopes(tree)
        first[2].clear()
        first[3][0][2].append(1)
        first[3].clear()
        self.assertEqual(scopes(tree), wanted)

    def test_what_has_no_rules_of_its_own(self):
        self.assert_blocks("class A:\n  __a = 0\n  def f(b): __a", "m top(A:g)[c A(__a:l f:l)[f f(__a:g b:l)]]")
        self.assert_blocks("class A:\n  def f(a): super, __class__", "m top(A:g)[c A(f:l)[f f(__class__:g a:l super:g)]]")
        self.assert_blocks("def f():\n  a: 0", "m top(f:g)[f f(a:l)]")
        self.assert_blocks("def f():\n  global a\n  a: 0", "m top(f:g)[f f(a:g)]")
        self.assert_blocks("def f():\n  from a import *\n  b", "m top(f:g)[f f(b:g)]")
        self.assert_blocks("def f():\n  global a\n  a = 0\nb", "m top(b:g f:g)[f f(a:g)]")

    def test_other_nodes(self):
        for kind in KINDS:
            if kind not in ("Module", "Expression"):
                with self.assertRaises(BadNode):
                    scopes(sample(kind))
        for thing in NO_NODES + NO_NODES_BUT_STRINGS:
            with self.assertRaises(BadNode):
                scopes(thing)
        for node in (Node("Module", [Node("Load")]), Node("Module", (Node("Pass"),)), Node("Expression")):
            with self.assertRaises(BadNode):
                scopes(node)


class BadScopeTest(unittest.TestCase):
    def assert_fault(self, text, name, lineno, col_offset, mode="exec"):
        tree = parse(text, mode)
        before = snapshot(tree)
        with self.assertRaises(BadScope) as caught:
            scopes(tree)
        error = caught.exception
        self.assertEqual((error.name, error.lineno, error.col_offset), (name, lineno, col_offset), text)
        self.assertEqual(snapshot(tree), before)
        for node in nodes_in(tree):
            node.lineno = node.col_offset = None
        with self.assertRaises(BadScope) as caught:
            scopes(tree)
        error = caught.exception
        self.assertEqual((error.name, error.lineno, error.col_offset), (name, None, None), text)

    def assert_right(self, *texts):
        for text in texts:
            scopes(parse(text))

    def test_nonlocal_in_the_module(self):
        self.assert_fault("nonlocal a", "a", 1, 0)
        self.assert_fault("a = 0; nonlocal b, a", "b", 1, 7)
        self.assert_fault("if a:\n  nonlocal b", "b", 2, 2)

    def test_nonlocal_that_leads_to_the_module(self):
        self.assert_fault("def f(): nonlocal a", "a", 1, 9)
        self.assert_fault("a = 0\ndef f(): nonlocal a", "a", 2, 9)
        self.assert_fault("class A: nonlocal a", "a", 1, 9)
        self.assert_fault("def f():\n  a = 0\n  nonlocal a", "a", 3, 2)
        self.assert_fault("class A:\n  a = 0\n  def f(): nonlocal a", "a", 3, 11)
        self.assert_fault("def f(a):\n  def g(): nonlocal a, b", "b", 2, 11)
        self.assert_fault("def f():\n  global a\n  def g(): nonlocal a", "a", 3, 11)
        self.assert_fault("def f(a):\n  def g():\n    global a\n    a = 0\n    def h(): nonlocal a", "a", 5, 13)
        self.assert_fault("def f():\n  a\n  def g(): nonlocal a", "a", 3, 11)
        self.assert_fault("def f():\n  [a for a in b]\n  def g(): nonlocal a", "a", 3, 11)
        self.assert_right(
            "def f(a):\n  def g(): nonlocal a", "def f():\n  def g(): nonlocal a\n  a = 0",
            "def f():\n  class A: nonlocal a\n  a = 0", "def f(a):\n  class A:\n    def g(): nonlocal a",
            "def f(a):\n  def g():\n    nonlocal a\n    def h(): nonlocal a",
            "def f():\n  [a := 0 for b in c]\n  def g(): nonlocal a", "def f(a):\n  class A:\n    global a\n    def g(): nonlocal a",
            "def f():\n  import a.b\n  def g(): nonlocal a", "def f():\n  def g(): nonlocal g",
        )

    def test_declared_both_ways(self):
        self.assert_fault("def f(a):\n  def g():\n    global a\n    nonlocal a", "a", 3, 4)
        self.assert_fault("def f(a):\n  def g():\n    nonlocal a\n    global a", "a", 3, 4)
        self.assert_fault("def f(a, b):\n  def g():\n    nonlocal b, a\n    if a:\n      global a", "a", 3, 4)
        self.assert_fault("def f(a):\n  class A:\n    global b, a\n    nonlocal a", "a", 3, 4)
        # The inner one looks at a function that declares the name in both ways, and leads to the module.
        self.assert_fault("def f(a):\n  def g():\n    def h(): nonlocal a\n    nonlocal a\n    global a", "a", 3, 13)
        self.assert_right("def f(a):\n  def g(): global a\n  def h(): nonlocal a", "global a, a\nglobal a",
            "def f(a):\n  def g():\n    nonlocal a, a\n    nonlocal a",
            "def f(a):\n  def g():\n    global a\n    class A:\n      global a")

    def test_parameters(self):
        for text, column in (("a", 10), ("a, /", 13), ("*a", 11), ("*, a", 13), ("**a", 12), ("b, a=0", 15)):
            self.assert_fault(f"def f({text}): global a", "a", 1, column)
            self.assert_fault(f"def g(a):\n  def f({text}): nonlocal a", "a", 2, column + 2)
        self.assert_fault("def f(a, b): global c, b, a", "b", 1, 13)
        self.assert_right("def f(a):\n  class A: global a", "def f(a):\n  def g(): global a", "lambda a: 0\nglobal a",
            "def f(b=a): global a", "def f(b: a) -> a: global a", "@a\ndef f(): global a")

    def test_bound_or_used_ahead(self):
        for ahead in ("a = 0", "a", "del a", "a += 0", "a: 0", "import a", "import a.b", "from b import a", "b.a; a.b",
            "for a in b: 0", "def a(): 0", "class a: 0", "(a := 0)", "[a := 0 for b in c]", "with b as a: 0", "f'{a}'",
            "import b as a", "[b for c in a]", "lambda b=a: 0", "def g(b: a): 0", "@a\ndef g(): 0", "class A(a): 0",
            "match b:\n case a: 0", "match b:\n case {0: 0, **a}: 0", "match b:\n case [*a]: 0", "match a:\n case b: 0",
            "try: 0\nexcept b as a: 0", "async def g() -> a: 0", "match b:\n case a.b: 0", "match b:\n case a(): 0"):
            lines = ahead.count("\n") + 1
            self.assert_fault(f"{ahead}\nglobal b1, a", "a", lines + 1, 0)
            inner = "\n".join("  " + line for line in ahead.split("\n"))
            self.assert_fault(f"def f():\n{inner}\n  global b1, a", "a", lines + 2, 2)
            if ahead[0] != "[":
                self.assert_fault(f"class B:\n{inner}\n  global b1, a", "a", lines + 2, 2)
            inner = "\n".join("    " + line for line in ahead.split("\n"))
            self.assert_fault(f"def f(a):\n  def g():\n{inner}\n    nonlocal a", "a", lines + 3, 4)
            self.assert_right(f"global a\n{ahead}")
        self.assert_fault("for a in b: global a", "a", 1, 12)
        self.assert_fault("if a: global a", "a", 1, 6)
        self.assert_fault("while b: 0\nelse:\n  a\n  global a", "a", 4, 2)
        self.assert_fault("try: 0\nexcept b as a: global a", "a", 2, 15)
        self.assert_fault("match a:\n case b: global b", "b", 2, 9)
        self.assert_right(
            "b.a; f(a=b); global_a; lambda: a; [a for b in c]\nglobal a", "def f(): a\nglobal a", "class A: a = 0\nglobal a",
            "[a for a in b]; lambda a: a\nglobal a", "global a; a = 0; a", "import b.a, a.b as c\nglobal a", "def f(a): a\nglobal a",
            "match b:\n case c.a | A(a=_): 0\nglobal a", "from a import b\nglobal a", "from a import *\nglobal a",
            "class A:\n  global a\n  a\na",
        )

    def test_parameters_that_stand_twice(self):
        self.assert_fault("def f(a, a): 0", "a", 1, 9)
        self.assert_fault("def f(a, b, c, b, a): 0", "b", 1, 15)
        self.assert_fault("lambda a, a: 0", "a", 1, 10)
        self.assert_fault("def f(a, /, b, *c, d, **a): 0", "a", 1, 24)
        self.assert_fault("def f(a, *a): 0", "a", 1, 10)
        self.assert_fault("def f(*a, a): 0", "a", 1, 10)
        self.assert_fault("def f(*, a, a): 0", "a", 1, 12)
        self.assert_fault("def f(a, /, a): 0", "a", 1, 12)
        self.assert_fault("def f(b, *, a, **b): 0", "b", 1, 17)
        self.assert_fault("lambda: lambda a, *a: 0", "a", 1, 19)
        # **a comes ahead of the defaults.
        self.assert_fault("def f(a=lambda b, b: 0, **a): 0", "a", 1, 26)
        self.assert_fault("def f(a: (lambda b, b: 0), **a): 0", "b", 1, 20)
        self.assert_right("def f(a, b=a): 0", "def f(a): lambda a: a", "def a(a): 0", "lambda a, b: lambda b, a: 0",
            "def f(a, b=lambda a: 0): 0", "def f(a: a, b: a): 0", "def f(a):\n  a = 0\n  def a(): 0")

    def test_named_expressions_in_an_iter(self):
        for text, column in (
            ("[a for b in (c := d)]", 13), ("[a for b in d for e in (c := d)]", 24), ("[a for b in f(0, (c := d))]", 18),
            ("[a for b in (lambda: (c := d))]", 22), ("{a for b in [0 for e in f if (c := d)]}", 30),
            ("[(c := [e for b in (c := d)]) for a in b]", 20), ("{a: b for c in (lambda e=(c := d): 0)}", 26),
            ("[a for b in [0 for e in (c := d)]]", 25), ("[0 for b in f'{(c := d)}']", 16),
        ):
            self.assert_fault(text, "c", 1, column)
            self.assert_fault(text, "c", 1, column, "eval")
            self.assert_fault(f"def f():\n  return {text}", "c", 2, column + 9)
            if not text.startswith("[(c"):
                self.assert_fault(f"class A: {text}", "c", 1, column + 9)
        self.assert_right("[a for b in c if (d := e)]", "[(d := e) for b in c]", "for a in (b := c): 0", "(a := [b for c in d])",
            "lambda: (a := 0)", "[a for f[(c := d)] in e]")

    def test_named_expressions_that_bind_what_a_target_binds(self):
        for text, column in (
            ("[(a := 0) for a in b]", 2), ("[0 for a in b if (a := 0)]", 18), ("[0 for b in c if (a := 0) for a in b]", 18),
            ("[(a := 0) for b, [c, *a] in d]", 2), ("[(a := 0) for (b, (c, (a,))) in d]", 2), ("[[(a := 0) for b in c] for a in d]", 3),
            ("[[(a := 0) for a in c] for b in d]", 3), ("{(a := 0): 0 for a in b}", 2), ("((a := 0) for b in c for a in d)", 2),
            ("[0 for b in c if [(a := 0) for d in e] for a in b]", 19), ("{0 for a in b if (lambda c=(a := 0): c)}", 28),
        ):
            self.assert_fault(text, "a", 1, column)
            self.assert_fault(text, "a", 1, column, "eval")
            self.assert_fault(f"lambda: {text}", "a", 1, column + 8)
        self.assert_right(
            "[(a := 0) for b.a in c]", "[(a := 0) for b[a] in c]", "[(lambda: (a := 0)) for a in b]", "(a := [a for a in b])",
            "[(b := 0) for a in b]", "[lambda a: (a := 0) for b in c]", "[(lambda: [(a := 0) for b in c]) for a in b]",
        )

    def test_named_expressions_in_comprehensions_in_classes(self):
        self.assert_fault("class A: [(a := 0) for b in c]", "a", 1, 11)
        self.assert_fault("class A: [[(a := 0) for b in c] for d in e]", "a", 1, 12)
        self.assert_fault("class A:\n  def f(a={(b := 0) for c in d}): 0", "b", 2, 12)
        self.assert_fault("class A: [lambda b=(a := 0): b for c in d]", "a", 1, 20)
        self.assert_fault("def f():\n  class A:\n    if a: {(a := 0): 0 for b in c}", "a", 3, 12)
        self.assert_fault("class A: (0 for b in c if (a := b))", "a", 1, 27)
        self.assert_right("class A: (a := 0)", "class A: f(a := 0)", "class A: lambda: [(a := 0) for b in c]",
            "class A([(a := 0) for b in c]): 0", "@[(a := 0) for b in c]\nclass A: 0",
            "class A:\n  def f(): [(a := 0) for b in c]", "class A: [lambda: (a := 0) for b in c]")

    def test_the_first_one_in_the_order_of_walk(self):
        self.assert_fault("nonlocal a\nnonlocal b", "a", 1, 0)
        self.assert_fault("def f(): nonlocal a\nnonlocal b", "a", 1, 9)
        self.assert_fault("@(lambda a, a: 0)\ndef f(b, b): 0", "b", 2, 9)
        self.assert_fault("@(lambda a, a: 0)\ndef f(): nonlocal b", "b", 2, 9)
        self.assert_fault("(lambda a, a: 0) if (lambda b, b: 0) else 0", "b", 1, 31)
        self.assert_fault("[(lambda a, a: 0) for b in (lambda c, c: 0)]", "a", 1, 12)
        self.assert_fault("{0: (lambda a, a: 0), (lambda b, b: 0): 0}", "b", 1, 33)
        self.assert_fault("[(a := (b := 0)) for b in c for a in d]", "a", 1, 2)
        self.assert_fault("lambda a=(lambda b, b: 0), *, c=(lambda d, d: 0): 0", "d", 1, 43)
        self.assert_fault("a\nglobal a, b\nnonlocal c", "a", 2, 0)
        self.assert_fault("b, a\nglobal c, a, b", "a", 2, 0)

    def test_places_of_the_node_itself(self):
        self.assert_fault("def f(\n  a,\n  *,\n  a: b = c): 0", "a", 4, 2)
        self.assert_fault("def f(a):\n  global b, \\\n  a", "a", 2, 2)
        self.assert_fault("[\n (a\n := 0) for a in b]", "a", 2, 2)
        tree = parse("a\nglobal a")
        tree["body"][1].lineno, tree["body"][1].col_offset = None, "x"
        with self.assertRaises(BadScope) as caught:
            scopes(tree)
        self.assertEqual((caught.exception.lineno, caught.exception.col_offset), (None, "x"))


if __name__ == "__main__":
    unittest.main()
