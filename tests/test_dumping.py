"""Dumps: DOC.md [39], and [37] for the values in them."""

import ast
import unittest

from treequill.errors import BadNode
from treequill.nodes import Node, fields_of
from treequill.reading import parse
from treequill.values import Dots, Float, Imaginary, Octets
from treequill.walking import dump

from helping import ATTRIBUTES, NO_NODES, NO_NODES_BUT_STRINGS, difference, nodes_in, snapshot
from maker import Maker
from table import KINDS, TABLE, sample, split_rule
from test_floats import float_from
from test_python import value_from
from test_refused import PROGRAMS


def tree_of(text):
    """Return the tree that a dump tells, read as a Python expression."""
    return node_of(ast.parse(text, mode="eval").body)


def node_of(thing):
    if isinstance(thing, ast.List):
        return [node_of(item) for item in thing.elts]
    if not isinstance(thing, ast.Call):
        return value_from(ast.literal_eval(thing))
    assert isinstance(thing.func, ast.Name)
    node = Node(thing.func.id, *[node_of(part) for part in thing.args])
    for part in thing.keywords:
        if part.arg in ATTRIBUTES:
            setattr(node, part.arg, node_of(part.value))
        else:
            node[part.arg] = node_of(part.value)
    return node


class DumpTest(unittest.TestCase):
    def assert_dump(self, node, *texts):
        """The dumps with and without names."""
        self.assertEqual(dump(node), texts[0])
        self.assertEqual(dump(node, False), texts[1] if len(texts) > 1 else texts[0])

    def test_the_example(self):
        self.assertEqual(
            dump(parse("a = 1")),
            "Module(body=[Assign(targets=[Name(id='a', ctx=Store())], value=Constant(value=1))])",
        )

    def test_without_names(self):
        self.assertEqual(dump(parse("a = 1"), False), "Module([Assign([Name('a', Store())], Constant(1))])")
        self.assertEqual(
            dump(parse("f(b)", "eval"), annotate_fields=False),
            "Expression(Call(Name('f', Load()), [Name('b', Load())], []))",
        )
        self.assertEqual(dump(parse("return"), False), "Module([Return(None)])")
        self.assertEqual(
            dump(parse("lambda: a", "eval")["body"], False),
            "Lambda(arguments([], [], None, [], [], None, []), Name('a', Load()))",
        )

    def test_what_is_left_out(self):
        self.assert_dump(Node("Return"), "Return()", "Return(None)")
        self.assert_dump(Node("Module"), "Module()", "Module([])")
        self.assert_dump(Node("arguments"), "arguments()", "arguments([], [], None, [], [], None, [])")
        self.assert_dump(Node("arguments", [], [Node("arg", "a")]), "arguments(args=[arg(arg='a')])",
            "arguments([], [arg('a', None)], None, [], [], None, [])")
        self.assert_dump(Node("Tuple"), "Tuple(ctx=Load())", "Tuple([], Load())")
        self.assert_dump(Node("keyword", None, Node("Name", "a")), "keyword(value=Name(id='a', ctx=Load()))",
            "keyword(None, Name('a', Load()))")
        self.assert_dump(Node("MatchAs"), "MatchAs()", "MatchAs(None, None)")
        self.assert_dump(Node("MatchStar", "a"), "MatchStar(name='a')", "MatchStar('a')")

    def test_what_is_none_and_stays(self):
        self.assert_dump(Node("Constant", None), "Constant(value=None)", "Constant(None)")
        self.assert_dump(Node("MatchSingleton", None), "MatchSingleton(value=None)", "MatchSingleton(None)")
        self.assert_dump(Node("Dict", [None], [Node("Constant", 1)]), "Dict(keys=[None], values=[Constant(value=1)])",
            "Dict([None], [Constant(1)])")
        self.assert_dump(
            Node("arguments", kwonlyargs=[Node("arg", "a"), Node("arg", "b")], kw_defaults=[None, Node("List")]),
            "arguments(kwonlyargs=[arg(arg='a'), arg(arg='b')], kw_defaults=[None, List(ctx=Load())])",
            "arguments([], [], None, [arg('a', None), arg('b', None)], [None, List([], Load())], None, [])",
        )

    def test_each_field_left_out_or_not(self):
        for kind in KINDS:
            for name, rule in TABLE[kind]:
                mark = split_rule(rule)[1]
                chosen = [[]] if mark in ("*", "+", "(?)*") else []
                if mark == "?" or rule in ("VALUE", "None, True or False"):
                    chosen.append(None)
                for value in chosen:
                    node = sample(kind)
                    node[name] = value
                    read = ast.parse(dump(node), mode="eval").body
                    wanted = [other for other in fields_of(kind) if other != name or value is None and mark != "?"]
                    self.assertEqual([part.arg for part in read.keywords], wanted, (kind, name))
                    self.assertEqual(read.args, [])
                    read = ast.parse(dump(node, False), mode="eval").body
                    self.assertEqual(len(read.args), len(fields_of(kind)))
                    self.assertEqual(read.keywords, [])
                    self.assertEqual(node_of(read.args[fields_of(kind).index(name)]), value)

    def test_values(self):
        for value, text in (
            (True, "True"), (False, "False"), (None, "None"), (0, "0"), (12, "12"), (10 ** 199, "1" + "0" * 199),
            ("", "''"), ("a", "'a'"), ("it's", '"it\'s"'), ('"', "'\"'"), ("'\"", "'\\'\"'"), ("\\", "'\\\\'"),
            ("\n", "'\\n'"), ("\t", "'\\t'"), ("a b", "'a b'"), ("{}", "'{}'"), ("\\n'", '"\\\\n\'"'),
            (Dots(), "..."), (Float(1, -1), "0.5"), (Float(0, 0), "0.0"), (Float(1, 1024), "1e309"),
            (Float(3, 0), "3.0"), (float_from(1e16), "1e+16"), (float_from(1.5e-7), "1.5e-07"),
            (Imaginary(Float(1, 0)), "1j"), (Imaginary(Float(0, 0)), "0j"), (Imaginary(Float(1, -2)), "0.25j"),
            (Imaginary(Float(1, 1024)), "1e309j"), (Octets(()), "b''"), (Octets((97, 39)), "b\"a'\""),
            (Octets((0, 9, 10, 13, 31, 32, 37, 92, 126, 127, 255)), "b'\\x00\\t\\n\\r\\x1f \\x25\\\\~\\x7f\\xff'"),
            (Octets((34, 39)), "b'\"\\''"),
        ):
            self.assert_dump(Node("Constant", value), f"Constant(value={text})", f"Constant({text})")

    def test_values_of_other_fields(self):
        self.assert_dump(Node("Global", ["a", "b"]), "Global(names=['a', 'b'])", "Global(['a', 'b'])")
        self.assertEqual(dump(parse("from ..a.b import *")["body"][0]),
            "ImportFrom(module='a.b', names=[alias(name='*')], level=2)")
        self.assertEqual(dump(parse("(a): b")["body"][0]),
            "AnnAssign(target=Name(id='a', ctx=Store()), annotation=Name(id='b', ctx=Load()), simple=0)")
        self.assertEqual(dump(parse("f'a{b!r:c}'", "eval")["body"]),
            "JoinedStr(values=[Constant(value='a'), FormattedValue(value=Name(id='b', ctx=Load()), conversion=114, "
            "format_spec=JoinedStr(values=[Constant(value='c')]))])")
        self.assertEqual(dump(parse("f'{b}'", "eval")["body"]),
            "JoinedStr(values=[FormattedValue(value=Name(id='b', ctx=Load()), conversion=-1)])")
        self.assertEqual(dump(parse("[a async for b in c]", "eval")["body"]["generators"][0]),
            "comprehension(target=Name(id='b', ctx=Store()), iter=Name(id='c', ctx=Load()), is_async=1)")
        self.assertEqual(dump(parse("match a:\n case {None: True}: pass")["body"][0]["cases"][0]["pattern"]),
            "MatchMapping(keys=[Constant(value=None)], patterns=[MatchSingleton(value=True)])")

    def test_attributes(self):
        self.assertEqual(
            dump(parse("a"), include_attributes=True),
            "Module(body=[Expr(value=Name(id='a', ctx=Load(), lineno=1, col_offset=0, end_lineno=1, "
            "end_col_offset=1), lineno=1, col_offset=0, end_lineno=1, end_col_offset=1)])",
        )
        self.assertEqual(dump(parse("pass"), False, True),
            "Module([Pass(lineno=1, col_offset=0, end_lineno=1, end_col_offset=4)])")
        for chosen in range(16):
            told = {name: at - 2 for at, name in enumerate(ATTRIBUTES) if chosen >> at & 1}
            texts = [f"{name}={told[name]}" for name in ATTRIBUTES if name in told]
            self.assertEqual(dump(Node("Load", **told), True, True), f"Load({', '.join(texts)})")
            self.assertEqual(dump(Node("MatchStar", **told), False, True), f"MatchStar({', '.join(['None'] + texts)})")
            self.assertEqual(dump(Node("MatchStar", **told), True, True), f"MatchStar({', '.join(texts)})")
            self.assertEqual(dump(Node("MatchStar", **told)), "MatchStar()")

    def test_no_fields(self):
        for kind in KINDS:
            if not TABLE[kind]:
                self.assert_dump(Node(kind), f"{kind}()")

    def test_the_tree_that_a_dump_tells(self):
        trees = [parse(text) for text in PROGRAMS] + [Maker(seed).tree() for seed in range(7100, 7200)]
        for tree in trees:
            before = snapshot(tree)
            for names in (True, False):
                self.assertIsNone(difference(tree_of(dump(tree, names)), tree))
                self.assertIsNone(difference(tree_of(dump(tree, names, True)), tree, True))
            self.assertEqual(snapshot(tree), before)

    def test_samples_of_every_kind(self):
        for kind in KINDS:
            node = sample(kind)
            for many in (True, False):
                self.assertIsNone(difference(tree_of(dump(node, annotate_fields=many)), node))
            names = [name for name in fields_of(kind)]
            text = dump(node)
            self.assertTrue(text.startswith(f"{kind}({names[0]}=" if names else f"{kind}()"))
            self.assertEqual(text.count("\n"), 0)

    def test_the_parts_of_a_dump(self):
        tree = parse(PROGRAMS[6])
        for node in nodes_in(tree):
            self.assertIn(dump(node), dump(tree))
            self.assertIn(dump(node, False, True), dump(tree, False, True))

    def test_names_of_arguments(self):
        node = parse("pass")["body"][0]
        self.assertEqual(dump(include_attributes=False, annotate_fields=True, node=Node("Return")), "Return()")
        self.assertEqual(dump(annotate_fields=False, node=Node("Return")), "Return(None)")
        self.assertEqual(dump(include_attributes=True, node=node),
            "Pass(lineno=1, col_offset=0, end_lineno=1, end_col_offset=4)")

    def test_what_is_no_node(self):
        for thing in NO_NODES + NO_NODES_BUT_STRINGS:
            for more in ((), (False,), (True, True)):
                with self.assertRaises(BadNode):
                    dump(thing, *more)


if __name__ == "__main__":
    unittest.main()
