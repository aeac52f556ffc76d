"""Paths, and comparisons of trees: DOC.md [42] and [43]."""

import unittest

from treequill.changing import compare
from treequill.errors import BadNode
from treequill.nodes import Node, fields_of
from treequill.reading import parse
from treequill.values import Dots, Float, Imaginary, Octets
from treequill.walking import copy_tree, walk
from treequill.writing import unparse

from helping import ATTRIBUTES, NO_NODES, NO_NODES_BUT_STRINGS, difference, snapshot
from maker import Maker
from table import GROUPS, KINDS, TABLE, sample, split_rule
from test_refused import PROGRAMS

# Values of constants, no two of which are equal and of the same kind.
VALUES = (
    None, True, False, 0, 1, 2, "", "a", "1", "None", Dots(), Float(0, 0), Float(1, 0), Float(1, 1), Imaginary(Float(1, 0)),
    Imaginary(Float(0, 0)), Octets(()), Octets((1,)), Octets((97,)),
)


def at(node, path):
    """Return what stands at a path."""
    for step in path:
        node = node[step] if isinstance(step, str) else node[step[0]][step[1]]
    return node


def paths(node, path=()):
    """Return the paths of all nodes in a node, in the order of walk."""
    found = [path]
    for name in fields_of(node.kind):
        value = node[name]
        if isinstance(value, Node):
            found += paths(value, (*path, name))
        elif isinstance(value, list):
            for index, item in enumerate(value):
                if isinstance(item, Node):
                    found += paths(item, (*path, (name, index)))
    return found


class CompareTest(unittest.TestCase):
    def assert_path(self, one, other, path, *more):
        """Compare both ways about."""
        for first, second in ((one, other), (other, one)):
            before = snapshot(first), snapshot(second)
            found = compare(first, second, *more)
            self.assertEqual(found, path)
            self.assertEqual((snapshot(first), snapshot(second)), before)
            if found is not None:
                self.assertIs(type(found), tuple)
                for step in found:
                    self.assertIs(type(step), str if isinstance(step, str) else tuple)

    def assert_programs(self, one, other, path, mode="exec"):
        self.assert_path(parse(one, mode), parse(other, mode), path)

    def test_equal_trees(self):
        for kind in KINDS:
            self.assert_path(sample(kind), sample(kind), None)
            self.assert_path(sample(kind), sample(kind), None, True)
        for text in PROGRAMS:
            tree = parse(text)
            self.assert_path(tree, tree, None)
            self.assert_path(tree, parse(text), None, True)
        for seed in range(7500, 7530):
            self.assert_path(Maker(seed).tree(), Maker(seed).tree(), None)

    def test_programs(self):
        for one, other, path in (
            ("a", "b", (("body", 0), "value", "id")), ("a", "a\na", ("body",)), ("a", "", ("body",)),
            ("a", "pass", (("body", 0),)), ("a; b", "a; c", (("body", 1), "value", "id")),
            ("a + b", "a - b", (("body", 0), "value", "op")), ("a + b", "c - b", (("body", 0), "value", "left", "id")),
            ("f(a, b)", "f(a)", (("body", 0), "value", "args")),
            ("f(a, b)", "g(a)", (("body", 0), "value", "func", "id")),
            ("f(a, b)", "f(c)", (("body", 0), "value", "args")),
            ("f(a, b)", "f(c, d)", (("body", 0), "value", ("args", 0), "id")),
            ("f(a=b)", "f(**b)", (("body", 0), "value", ("keywords", 0), "arg")),
            ("return", "return a", (("body", 0), "value")), ("return None", "return", (("body", 0), "value")),
            ("a[b:]", "a[:b]", (("body", 0), "value", "slice", "lower")),
            ("{a: b}", "{**b}", (("body", 0), "value", ("keys", 0))),
            ("{a: b, **c}", "{a: b, c: c}", (("body", 0), "value", ("keys", 1))),
            ("{a: b}", "{a: c, d: e}", (("body", 0), "value", "keys")),
            ("global a, b", "global a, c", (("body", 0), ("names", 1))), ("global a", "global a, b", (("body", 0), "names")),
            ("global a", "nonlocal a", (("body", 0),)), ("a: b", "(a): b", (("body", 0), "simple")),
            ("import a", "import a as a", (("body", 0), ("names", 0), "asname")),
            ("from . import a", "from .. import a", (("body", 0), "level")),
            ("from . import a", "from .b import c", (("body", 0), "module")),
            ("1", "True", (("body", 0), "value", "value")), ("0", "False", (("body", 0), "value", "value")),
            ("1", "1.0", (("body", 0), "value", "value")), ("'a'", "b'a'", (("body", 0), "value", "value")),
            ("''", "f''", (("body", 0), "value")), ("(a)", "a,", (("body", 0), "value")),
            ("a = b", "a += b", (("body", 0),)), ("[a]", "(a,)", (("body", 0), "value")),
            ("f'{a}'", "f'{a!r}'", (("body", 0), "value", ("values", 0), "conversion")),
            ("f'{a}'", "f'{a:}'", (("body", 0), "value", ("values", 0), "format_spec")),
            ("f'{a:b}'", "f'{a:}'", (("body", 0), "value", ("values", 0), "format_spec", "values")),
            ("lambda *a: b", "lambda a: b", (("body", 0), "value", "args", "args")),
            ("lambda *a: b", "lambda *, a: b", (("body", 0), "value", "args", "vararg")),
            ("lambda a, *, b=c: d", "lambda a, *, b: d", (("body", 0), "value", "args", ("kw_defaults", 0))),
            ("a if b else c", "d if e else c", (("body", 0), "value", "test", "id")),
            ("if a: b\nelif c: d", "if a: b\nelse:\n if c: e", (("body", 0), ("orelse", 0), ("body", 0), "value", "id")),
        ):
            self.assert_programs(one, other, path)
            if "=" not in one + other and "return" not in one and "\n" not in one + other and ";" not in one:
                if one and other and parse(one)["body"][0].kind == parse(other)["body"][0].kind == "Expr":
                    self.assert_programs(one, other, ("body",) + path[2:], "eval")

    def test_same_trees_of_different_texts(self):
        for one, other in (("a+b", "(a)  + (b)"), ("'a' 'b'", "\"ab\""), ("if a: b", "if a:\n  b"), ("0x10", "16"),
            ("1.00", "1e0"), ("a;b", "a\nb"), ("with (a, b): c", "with a, b: c"), ("f'a' 'b'", "f'ab'")):
            self.assert_programs(one, other, None)
            self.assertIsNotNone(compare(parse(one), parse(other), True))

    def test_values(self):
        for first, one in enumerate(VALUES):
            for second, other in enumerate(VALUES):
                path = None if first == second else ("value",)
                self.assert_path(Node("Constant", one), Node("Constant", other), path)
                if first < 3 and second < 3:
                    self.assert_path(Node("MatchSingleton", one), Node("MatchSingleton", other), path)
        self.assert_path(Node("Constant", Float(3, -1)), Node("Constant", Float(3, -1)), None)
        self.assert_path(Node("Constant", Octets((1, 2))), Node("Constant", Octets((1, 2))), None)
        self.assert_path(Node("Constant", 10 ** 199), Node("Constant", 10 ** 199), None)
        self.assert_path(Node("Constant", "a" * 500), Node("Constant", "a" * 500), None)

    def test_every_field_of_every_kind(self):
        for kind in KINDS:
            for name, rule in TABLE[kind]:
                for value, path in self.changes(kind, name, rule):
                    other = sample(kind)
                    other[name] = value
                    self.assert_path(sample(kind), other, path)
                    # Below other nodes, and behind other statements.
                    if kind in GROUPS["STMT"]:
                        one, other = [Node("Module", [Node("Pass"), node]) for node in (sample(kind), other)]
                        self.assert_path(one, other, (("body", 1), *path))

    def changes(self, kind, name, rule):
        """Return other values for a field, each with the path to it."""
        word, mark = split_rule(rule)
        held = sample(kind)[name]
        if mark in ("", "?"):
            found = [(self.exchanged(held), (name,))]
            if isinstance(held, Node) and word == "EXPR":
                found.append((Node("Name", "other"), (name, "id")))
            if mark == "?":
                found.append((None, (name,)))
            return found
        found = [([], (name,)), (held + held, (name,)), ([self.exchanged(held[0])], ((name, 0),))]
        if word == "EXPR":
            found.append(([Node("Name", "other")], ((name, 0), "id")))
        if mark == "(?)*":
            found.append(([None], ((name, 0),)))
        return found

    def exchanged(self, value):
        """Return a value of the same field that is another one."""
        if isinstance(value, Node):
            return Node("Pass" if value.kind != "Pass" else "Break")
        if isinstance(value, str):
            return value + "x"
        return value + 1 if type(value) is int else not value

    def test_the_first_of_several_differences(self):
        one = parse("def f(a, b=c): d; e\n")
        other = parse("def g(a, b=x): d; y; z\n")
        where = (("body", 0),)
        self.assert_path(one, other, (*where, "name"))
        other["body"][0]["name"] = "f"
        # The parameters come ahead of the statements, and a list's length ahead of its items.
        self.assert_path(one, other, (*where, "args", ("defaults", 0), "id"))
        other["body"][0]["args"]["defaults"][0]["id"] = "c"
        self.assert_path(one, other, (*where, "body"))
        other["body"][0]["body"][0]["value"]["id"] = "x"
        self.assert_path(one, other, (*where, "body"))
        other["body"][0]["body"].pop()
        self.assert_path(one, other, (*where, ("body", 0), "value", "id"))
        other["body"][0]["body"][0]["value"]["id"] = "d"
        self.assert_path(one, other, (*where, ("body", 1), "value", "id"))
        other["body"][0]["body"][1]["value"]["id"] = "e"
        self.assert_path(one, other, None)

    def test_attributes(self):
        for name in ATTRIBUTES:
            for one, other in ((1, 2), (None, 1), (0, None), (0, False), (1, True), ("1", 1)):
                first, second = Node("Name", "a", **{name: one}), Node("Name", "a", **{name: other})
                self.assert_path(first, second, None)
                self.assert_path(first, second, None, False)
                self.assert_path(first, second, (), True)
                # They come ahead of all fields, and behind the kinds.
                second["id"] = "b"
                self.assert_path(first, second, (), True)
                self.assert_path(first, second, ("id",), False)
                one_above, other_above = Node("Expr", first), Node("Expr", second)
                self.assert_path(one_above, other_above, ("value",), True)
        self.assert_path(parse("a\nb"), parse("a\n\nb"), (("body", 1),), True)
        self.assert_path(parse("a + b"), parse("a +  b"), (("body", 0),), True)
        self.assert_path(parse("a"), parse("(a)"), (("body", 0),), True)
        self.assert_path(parse("if a: b"), parse("if a:  b"), (("body", 0),), True)
        one, other = parse("f(a, b)"), parse("f(a, b)")
        other["body"][0]["value"]["args"][1]["ctx"].col_offset = 3
        self.assert_path(one, other, (("body", 0), "value", ("args", 1), "ctx"), True)
        self.assert_path(one, other, None)

    def test_each_attribute_of_each_node(self):
        one = parse("a = f(b)[c]")
        for path in paths(one):
            for name in ATTRIBUTES:
                other = copy_tree(one)
                setattr(at(other, path), name, 77)
                self.assert_path(one, other, path, True)
                self.assert_path(one, other, None)

    def test_each_node_in_a_program(self):
        for text in PROGRAMS[:12:3]:
            one = parse(text)
            order = paths(one)
            self.assertEqual(len(order), len(walk(one)))
            for path in order[1:]:
                other = copy_tree(one)
                above, step = at(other, path[:-1]), path[-1]
                replaced = Node("Pass")
                if at(one, path).kind == "Pass":
                    replaced = Node("Break")
                if isinstance(step, str):
                    above[step] = replaced
                else:
                    above[step[0]][step[1]] = replaced
                self.assert_path(one, other, path)

    def test_equal_just_where_the_written_texts_are(self):
        programs = [Maker(seed).tree() for seed in range(7600, 7660)] + [parse(text) for text in PROGRAMS]
        programs += [parse(text) for text in ("a", "a,", "(a,)", "(a), b", "a, b", "1", "1.0", "True", "'1'", "b'1'",
            "f'1'", "f''", "''", "(a): b", "a: b", "a.b: b", "{}", "()", "[]", "a;a", "a\na", "", "-1", "(-1)",
            "if a: b\nelif c: d", "if a: b\nelse:\n if c: d", "1e999", "1e400", "0.1", "0.10000000000000001", "0x1",
            "1j", "1.0j", "'a' 'b'", "'ab'", "f'a' 'b'", "f'ab'", "return", "return None", "lambda: a", "(lambda: a)",
            "f((a for b in c))", "f(a for b in c)", "a[b, c]", "a[(b, c)]", "a[b:c]", "a[b]", "a[b,]", "a[(b,)]",
            "not a == b", "(not a) == b", "a or b or c", "(a or b) or c", "a or (b or c)", "with (a, b): c",
            "with a, b: c", "with ((a, b)): c", "'\\n'", "'''\n'''", "r'\\n'", "'\\\\n'")]
        texts = [unparse(tree) for tree in programs]
        for one, text in zip(programs, texts):
            for other, again in zip(programs, texts):
                if one.kind in ("Module", "Expression") and one.kind == other.kind:
                    self.assertEqual(compare(one, other) is None, text == again, (text, again))

    def test_chains_and_long_lists(self):
        one, path = Node("Name", "a"), ("id",)
        other = Node("Name", "b")
        for step in range(40):
            if step & 1:
                one, other, path = Node("UnaryOp", Node("Not"), one), Node("UnaryOp", Node("Not"), other), ("operand",
                    *path)
            else:
                one, other, path = Node("Set", [one]), Node("Set", [other]), (("elts", 0), *path)
        self.assert_path(one, other, path)
        names = [Node("Name", f"a{step}") for step in range(300)]
        others = [Node("Name", f"a{step}") for step in range(300)]
        self.assert_path(Node("List", names), Node("List", others), None)
        others[299]["id"] = "b"
        self.assert_path(Node("List", names), Node("List", others), (("elts", 299), "id"))

    def test_if_only_one_is_a_node_or_a_list(self):
        for one in ([], [Node("Pass")], None, "a", (), (1,), 0, False, Dots(), Node("Pass"), {}):
            for other in ([1, 2], Node("Break"), "b", Float(1, 2), True, 1, ("a",)):
                self.assert_path(Node("Constant", one), Node("Constant", other), ("value",))
                self.assert_path(Node("Global", ["a", one]), Node("Global", ["a", other]), (("names", 1),))
        self.assert_path(Node("Module", ()), Node("Module", []), ("body",))
        self.assert_path(Node("Module", [None]), Node("Module", [Node("Pass")]), (("body", 0),))
        self.assert_path(Node("Module", Node("Pass")), Node("Module", [Node("Pass")]), ("body",))

    def test_agrees_with_a_comparison_of_its_own(self):
        trees = [Maker(seed).tree() for seed in range(7700, 7740)]
        for one in trees:
            for other in trees[:10]:
                found = compare(one, other)
                self.assertEqual(found is None, difference(one, other) is None)
                if found is not None:
                    self.assertIsNot(at(one, found), at(other, found))

    def test_names_of_arguments(self):
        one, other = parse("a"), parse("(a)")
        self.assertEqual(compare(places=True, other=other, one=one), (("body", 0),))
        self.assertIsNone(compare(other=other, one=one))

    def test_what_is_no_node(self):
        for thing in NO_NODES + NO_NODES_BUT_STRINGS:
            for one, other in ((thing, Node("Pass")), (Node("Pass"), thing), (thing, thing)):
                for more in ((), (True,)):
                    with self.assertRaises(BadNode):
                        compare(one, other, *more)


if __name__ == "__main__":
    unittest.main()
