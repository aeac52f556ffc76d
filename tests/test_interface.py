"""The interface, and what holds for all of it: DOC.md [1], [3], [4], [12], [54] and the last section."""

import ast
import importlib
import inspect
import pathlib
import unittest

from treequill.blocks import scopes
from treequill.changing import compare, transform, visit
from treequill.errors import BadNode, TreeError
from treequill.floats import float_of, float_text
from treequill.literals import literal_eval
from treequill.nodes import Node, fields_of, is_tree
from treequill.reading import parse
from treequill.values import Float
from treequill.walking import (
    copy_location, copy_tree, dump, fix_missing_locations, get_docstring, increment_lineno, iter_child_nodes,
    iter_fields, source_segment, walk,
)
from treequill.writing import unparse

from helping import NO_NODES, NO_NODES_BUT_STRINGS, difference, nodes_and_lists, nodes_in, snapshot
from maker import Maker
from table import KINDS, sample
from test_refused import PROGRAMS

PACKAGE = pathlib.Path(__file__).resolve().parent.parent / "treequill"
FUNCTIONS = {
    "nodes": ["fields_of(kind)", "is_tree(thing)"],
    "floats": ["float_of(text)", "float_text(value)"],
    "reading": ["parse(text, mode='exec')"],
    "writing": ["unparse(node)"],
    "walking": [
        "walk(node)", "iter_child_nodes(node)", "iter_fields(node)",
        "dump(node, annotate_fields=True, include_attributes=False)", "copy_tree(node)", "copy_location(new, old)",
        "fix_missing_locations(node)", "increment_lineno(node, n=1)", "get_docstring(node, clean=True)",
        "source_segment(text, node)",
    ],
    "changing": ["compare(one, other, places=False)", "visit(node, handlers)", "transform(node, handlers)"],
    "literals": ["literal_eval(node_or_text)"],
    "blocks": ["scopes(tree)"],
}
CLASSES = {
    "values": ["Dots()", "Float(mantissa, exponent)", "Imaginary(number)", "Octets(numbers)"],
    "nodes": ["Node(kind, *parts, **more)"],
    "errors": [
        "BadKind(kind)", "BadField(kind, name)", "BadMode(mode)", "BadText(lineno, col_offset)", "NoText(path)",
        "BadChange(kind, name)", "NotLiteral(path)", "BadScope(name, lineno, col_offset)",
    ],
}
# Calls of each function that takes a node, by the place of the node among the arguments.
CALLS = (
    unparse, walk, iter_child_nodes, iter_fields, dump, copy_tree, fix_missing_locations, increment_lineno, get_docstring,
    scopes,
    lambda node: dump(node, False, True), lambda node: increment_lineno(node, -2), lambda node: get_docstring(node, False),
    lambda node: copy_location(node, Node("Pass")), lambda node: copy_location(Node("Pass"), node),
    lambda node: copy_location(node, node), lambda node: source_segment("", node), lambda node: source_segment("a\nb", node),
    lambda node: compare(node, Node("Pass")), lambda node: compare(Node("Pass"), node, True),
    lambda node: compare(node, node), lambda node: visit(node, {}), lambda node: visit(node, {"Pass": len}),
    lambda node: transform(node, {}), lambda node: transform(node, {"Pass": len}),
)


class InterfaceTest(unittest.TestCase):
    def test_names_and_arguments(self):
        for file, signatures in FUNCTIONS.items():
            module = importlib.import_module(f"treequill.{file}")
            for signature in signatures:
                name = signature.partition("(")[0]
                function = getattr(module, name)
                self.assertEqual(function.__module__, f"treequill.{file}")
                self.assertEqual(name + str(inspect.signature(function)), signature)
        for file, signatures in CLASSES.items():
            module = importlib.import_module(f"treequill.{file}")
            for signature in signatures:
                name = signature.partition("(")[0]
                made = getattr(module, name)
                self.assertEqual(made.__module__, f"treequill.{file}")
                if signature != "Dots()":
                    self.assertEqual(name + str(inspect.signature(made)), signature)

    def test_each_stands_in_its_own_file(self):
        for file, signatures in [*FUNCTIONS.items(), *CLASSES.items()]:
            tree = ast.parse((PACKAGE / f"{file}.py").read_text(encoding="utf-8"))
            defined = {row.name: row for row in tree.body if isinstance(row, (ast.FunctionDef, ast.ClassDef))}
            for signature in signatures:
                self.assertIn(signature.partition("(")[0], defined)
            for name in {"values": ["Dots", "Float", "Imaginary", "Octets"]}.get(file, []):
                self.assertIn("__eq__", [row.name for row in defined[name].body if isinstance(row, ast.FunctionDef)])
            if "Node" in defined:
                methods = [row.name for row in defined["Node"].body if isinstance(row, ast.FunctionDef)]
                self.assertLessEqual({"__init__", "__getitem__", "__setitem__"}, set(methods))

    def test_arguments_by_names_in_another_order(self):
        tree = parse(mode="exec", text="a = 1")
        self.assertIsNone(compare(other=parse(text="a = 1"), places=True, one=tree))
        self.assertEqual(fields_of(kind="Name"), ("id", "ctx"))
        self.assertTrue(is_tree(thing=tree))
        self.assertEqual(float_of(text="0.5"), Float(exponent=-1, mantissa=1))
        self.assertEqual(float_text(value=Float(1, -1)), "0.5")
        self.assertEqual(unparse(node=tree), "a = 1")
        self.assertEqual(len(walk(node=tree)), 5)
        self.assertEqual(len(iter_child_nodes(node=tree)), 1)
        self.assertEqual(iter_fields(node=tree), [("body", tree["body"])])
        self.assertEqual(dump(include_attributes=False, annotate_fields=False, node=Node("Pass")), "Pass()")
        self.assertIsNone(compare(one=copy_tree(node=tree), other=tree))
        self.assertEqual(copy_location(old=tree["body"][0], new=Node("Pass")).end_col_offset, 5)
        self.assertIs(fix_missing_locations(node=tree), tree)
        self.assertIs(increment_lineno(n=3, node=tree), tree)
        self.assertIsNone(get_docstring(clean=False, node=tree))
        self.assertEqual(source_segment(node=tree["body"][0], text="\n\n\na = 12"), "a = 1")
        self.assertEqual(visit(handlers={"Name": lambda node: node["id"]}, node=tree), ["a"])
        self.assertEqual(unparse(transform(handlers={"Name": lambda node: Node("Name", "b", Node("Store"))}, node=tree)),
            "b = 1")
        self.assertEqual(literal_eval(node_or_text="1"), 1)
        self.assertEqual(scopes(tree=parse(mode="eval", text="1")), ("module", "top", [], []))

    def test_what_is_no_node(self):
        for thing in NO_NODES + NO_NODES_BUT_STRINGS:
            for call in CALLS:
                with self.assertRaises(BadNode) as caught:
                    call(thing)
                self.assertIs(type(caught.exception), BadNode)
        for thing in NO_NODES:
            with self.assertRaises(BadNode):
                literal_eval(thing)
            self.assertIs(is_tree(thing), False)

    def test_what_is_passed_stays(self):
        stays = [unparse, walk, iter_child_nodes, iter_fields, dump, copy_tree, get_docstring, scopes, literal_eval, is_tree,
            lambda node: dump(node, False, True), lambda node: source_segment("a", node), lambda node: compare(node, node, True),
            lambda node: compare(node, parse("a")), lambda node: compare(parse("a"), node), lambda node: visit(node, {}),
            lambda node: copy_location(Node("Pass"), node), lambda node: transform(node, {"Name": lambda part: None}),
            lambda node: transform(node, {"Constant": lambda part: Node("Pass")})]
        trees = [parse(text) for text in PROGRAMS] + [Maker(seed).tree() for seed in range(8900, 8920)]
        trees += [sample(kind) for kind in KINDS] + [parse("nonlocal a"), parse("a", "eval")]
        for tree in trees:
            before = snapshot(tree)
            for call in stays:
                try:
                    call(tree)
                except TreeError:
                    pass
                self.assertEqual(snapshot(tree), before)

    def test_errors_change_nothing(self):
        for text in PROGRAMS[:5]:
            tree = parse(text)
            before = snapshot(tree)
            for call in (lambda: copy_location(tree, 1), lambda: copy_location(1, tree), lambda: compare(tree, None)):
                with self.assertRaises(BadNode):
                    call()
                self.assertEqual(snapshot(tree), before)

    def test_what_was_returned_may_be_spoilt(self):
        tree = parse(PROGRAMS[9] + "def f(a): return a\n")
        asked = {
            "walk": lambda: walk(tree), "children": lambda: iter_child_nodes(tree), "fields": lambda: iter_fields(tree),
            "visit": lambda: visit(tree, {"Name": lambda node: node["id"]}),
            "scopes": lambda: scopes(parse("def f(a): [b for c in d]")), "value": lambda: literal_eval("[1, [2], {3: [4]}]"),
        }
        for call in asked.values():
            wanted = repr(call())
            self.spoil(call())
            self.assertEqual(repr(call()), wanted)

    def spoil(self, thing):
        if isinstance(thing, (list, tuple)):
            for item in thing:
                if not isinstance(item, Node) and item is not thing:
                    self.spoil(item)
        if isinstance(thing, dict):
            for item in thing.values():
                self.spoil(item)
            thing.clear()
        if isinstance(thing, list) and not any(isinstance(item, Node) and item.kind == "Module" for item in thing):
            if not thing or not isinstance(thing[0], Node):
                thing.append(None)

    def test_trees_that_the_package_makes_share_nothing(self):
        made = []
        for text in PROGRAMS:
            tree = parse(text)
            made += [tree, parse(text), copy_tree(tree), transform(tree, {}), transform(tree, {"Name": lambda node: node})]
        made += [parse(text, "eval") for text in ("a, b", "[a, *b]", "lambda a, *, b=c: d", "f'{a:{b}}'", "{a: b, **c}") * 2]
        made += [copy_tree(Node(kind)) for kind in KINDS] + [Node(kind) for kind in KINDS]
        found = [one for tree in made for one in nodes_and_lists(tree)]
        self.assertEqual(len(found), len(set(found)))

    def test_a_subclass_of_a_string_and_names_are_any_strings(self):
        self.assertEqual(unparse(parse("match = case = type = _")), "match = case = type = _")
        self.assertIsNone(difference(parse("a"), parse("a"), True))
        self.assertEqual(len(nodes_in(parse("a"))), 4)


if __name__ == "__main__":
    unittest.main()
