"""Walks: DOC.md [38], and [3] to [5] for them."""

import unittest

from treequill.errors import BadNode
from treequill.nodes import Node, fields_of
from treequill.reading import parse
from treequill.values import Dots, Octets
from treequill.walking import iter_child_nodes, iter_fields, walk

from helping import NO_NODES, NO_NODES_BUT_STRINGS, nodes_in, snapshot
from maker import Maker
from table import KINDS, TABLE, sample
from test_refused import PROGRAMS


def kinds(nodes):
    return " ".join(node.kind for node in nodes)


class WalkTest(unittest.TestCase):
    def assert_same(self, one, other):
        """Ask for a list of the very same objects."""
        self.assertIs(type(one), list)
        self.assertEqual([id(thing) for thing in one], [id(thing) for thing in other])

    def test_a_small_tree(self):
        tree = parse("a = b + 1, c\nf(d)")
        first, second = tree["body"]
        target, value = first["targets"][0], first["value"]
        total, last = value["elts"]
        call = second["value"]
        self.assert_same(walk(tree), [
            tree, first, target, target["ctx"], value, total, total["left"], total["left"]["ctx"], total["op"],
            total["right"], last, last["ctx"], value["ctx"], second, call, call["func"], call["func"]["ctx"],
            call["args"][0], call["args"][0]["ctx"],
        ])

    def test_the_order_is_that_of_fields_and_not_that_of_the_text(self):
        self.assertEqual(kinds(walk(parse("a if b else c", "eval"))),
            "Expression IfExp Name Load Name Load Name Load")
        node = parse("a if b else c", "eval")["body"]
        self.assertEqual([part["id"] for part in walk(node) if part.kind == "Name"], ["b", "a", "c"])
        node = parse("@a\ndef f(b=c) -> d: e")["body"][0]
        self.assertEqual([part["id"] for part in walk(node) if part.kind == "Name"], ["c", "e", "a", "d"])
        node = parse("{a: b, **c, d: e}", "eval")["body"]
        self.assertEqual([part["id"] for part in walk(node) if part.kind == "Name"], ["a", "d", "b", "c", "e"])
        node = parse("lambda a, /, b, *c, d=e, **f: g", "eval")["body"]
        self.assertEqual([part["arg"] for part in walk(node) if part.kind == "arg"], ["a", "b", "c", "d", "f"])

    def test_every_kind(self):
        for kind in KINDS:
            node = sample(kind)
            self.assert_same(walk(node), nodes_in(node))
            children = []
            for name in fields_of(kind):
                value = node[name]
                children += [item for item in (value if isinstance(value, list) else [value])
                    if isinstance(item, Node)]
            self.assert_same(iter_child_nodes(node), children)
            self.assert_same(walk(node), [node] + [part for child in children for part in nodes_in(child)])
            found = iter_fields(node)
            self.assertIs(type(found), list)
            self.assertEqual([pair[0] for pair in found], [name for name, _ in TABLE[kind]])
            for pair in found:
                self.assertIs(type(pair), tuple)
                self.assertEqual(len(pair), 2)
                self.assertIs(pair[1], node[pair[0]])

    def test_programs_and_random_trees(self):
        trees = [parse(text) for text in PROGRAMS] + [Maker(seed).tree() for seed in range(7000, 7060)]
        for tree in trees:
            before = snapshot(tree)
            found = walk(tree)
            self.assert_same(found, nodes_in(tree))
            for node in found:
                rest = [part for child in iter_child_nodes(node) for part in walk(child)]
                self.assert_same(walk(node), [node] + rest)
            self.assertEqual(snapshot(tree), before)

    def test_what_is_passed_over(self):
        one, two, three, hidden = [Node("Name", name) for name in "abcd"]
        node = Node("Module", [one, (hidden,), [hidden, [hidden]], None, "a", 1, two, {"a": hidden}, Dots(), three])
        self.assert_same(iter_child_nodes(node), [one, two, three])
        self.assert_same(walk(node), [node, one, one["ctx"], two, two["ctx"], three, three["ctx"]])
        self.assertEqual(iter_fields(node), [("body", node["body"])])
        for value in ((hidden,), "a", None, 1, True, {"a": hidden}, [[hidden]], [(hidden,)], [None], [], ()):
            node = Node("Module", value)
            self.assert_same(iter_child_nodes(node), [])
            self.assert_same(walk(node), [node])
            self.assertIs(iter_fields(node)[0][1], value)
        node = Node("Dict", [None, one, None], [two])
        self.assert_same(iter_child_nodes(node), [one, two])

    def test_nodes_at_unusual_places(self):
        inner = Node("Pass")
        node = Node("Constant", inner)
        self.assert_same(walk(node), [node, inner])
        node = Node("Global", [inner, "a"])
        self.assert_same(walk(node), [node, inner])
        node = Node("Name", [inner], ctx=None)
        self.assert_same(walk(node), [node, inner])
        node = Node("arguments", inner, inner, [inner])
        self.assert_same(iter_child_nodes(node), [inner, inner, inner])
        self.assert_same(walk(Node("Constant", Octets(inner)))[1:], [])

    def test_attributes_are_no_fields(self):
        inner = Node("Pass")
        node = Node("Pass", lineno=inner, col_offset=[inner])
        self.assert_same(walk(node), [node])
        self.assertEqual(iter_fields(node), [])

    def test_chains(self):
        node = Node("Name", "a")
        wanted = [node["ctx"], node]
        for at in range(40):
            node = Node("UnaryOp", Node("Not"), node) if at & 1 else Node("Attribute", node, "b")
            if node.kind == "UnaryOp":
                wanted = wanted + [node["op"], node]
            else:
                wanted = [node["ctx"]] + wanted + [node]
        self.assert_same(walk(node), wanted[::-1])

    def test_long_lists(self):
        names = [Node("Name", f"a{at}", None) for at in range(300)]
        node = Node("List", names, None)
        self.assert_same(walk(node), [node] + names)
        self.assert_same(iter_child_nodes(node), names)

    def test_anew_behind_a_change(self):
        node = parse("a + b", "eval")["body"]
        self.assertEqual(kinds(walk(node)), "BinOp Name Load Add Name Load")
        node["left"] = parse("f(c)", "eval")["body"]
        self.assertEqual(kinds(walk(node)), "BinOp Call Name Load Name Load Add Name Load")
        node["left"]["args"].append(Node("Pass"))
        self.assertEqual(kinds(iter_child_nodes(node["left"])), "Name Name Pass")
        node["left"]["args"].clear()
        self.assertEqual(kinds(walk(node)), "BinOp Call Name Load Add Name Load")
        self.assertEqual(iter_fields(node)[0], ("left", node["left"]))

    def test_lists_are_new(self):
        tree = parse("f(a, b)")
        for ask in (walk, iter_child_nodes, iter_fields):
            for node in nodes_in(tree):
                first = ask(node)
                wanted = list(first)
                self.assertIsNot(ask(node), first)
                first.append(None)
                first[0] = None
                self.assertEqual(ask(node), wanted)
        call = tree["body"][0]["value"]
        iter_child_nodes(call).clear()
        self.assertEqual(len(call["args"]), 2)

    def test_what_is_no_node(self):
        for thing in NO_NODES + NO_NODES_BUT_STRINGS:
            for ask in (walk, iter_child_nodes, iter_fields):
                with self.assertRaises(BadNode):
                    ask(thing)
                with self.assertRaises(BadNode):
                    ask(node=thing)


if __name__ == "__main__":
    unittest.main()
