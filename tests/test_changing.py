"""Visits and changed trees: DOC.md [44] and [45]."""

import unittest

from treequill.changing import compare, transform, visit
from treequill.errors import BadChange, BadNode
from treequill.nodes import Node, fields_of, is_tree
from treequill.reading import parse
from treequill.values import Dots, Float
from treequill.walking import dump, walk
from treequill.writing import unparse

from helping import (
    NO_NODES, NO_NODES_BUT_STRINGS, difference, nodes_and_lists, nodes_in, place, read_again, snapshot,
)
from maker import Maker
from table import KINDS, TABLE, sample, split_rule
from test_refused import PROGRAMS


def name(text):
    return Node("Name", text)


def upwards(node):
    """Return the nodes in a node and the node itself, those in a node ahead of it."""
    found = []
    for field in fields_of(node.kind):
        value = node[field]
        for item in value if isinstance(value, list) else [value]:
            if isinstance(item, Node):
                found += upwards(item)
    return found + [node]


class VisitTest(unittest.TestCase):
    def test_order_and_results(self):
        tree = parse("a = b + 1\nf(c)")
        calls = []

        def note(node):
            calls.append(node)
            return len(calls), node.kind

        results = visit(tree, {kind: note for kind in KINDS})
        self.assertIs(type(results), list)
        self.assertEqual([id(node) for node in calls], [id(node) for node in walk(tree)])
        self.assertEqual(results, [(at + 1, node.kind) for at, node in enumerate(walk(tree))])
        self.assertEqual(visit(tree, {"Name": lambda node: node["id"]}), ["a", "b", "f", "c"])
        self.assertEqual(visit(tree, {"Constant": lambda node: node["value"], "Name": lambda node: node["id"]}),
            ["a", "b", 1, "f", "c"])
        self.assertEqual(visit(tree, {}), [])
        self.assertEqual(visit(handlers={"Module": lambda node: None}, node=tree), [None])
        self.assertEqual(visit(tree, {"Pass": note, "no kind": note, None: note, 1: note}), [])

    def test_what_is_returned_is_kept(self):
        marker = object()
        for thing in (None, [], marker, [1], (), True, Node("Pass")):
            found = visit(parse("a; b"), {"Expr": lambda node: thing})
            self.assertEqual(len(found), 2)
            self.assertIs(found[0], thing)
            self.assertIs(found[1], thing)

    def test_the_order_is_that_ahead_of_the_first_call(self):
        tree = parse("a\nb\nc")
        names = []

        def change(node):
            tree["body"].reverse()
            node["value"] = name("x")
            node["value"]["ctx"] = None
            tree["body"].append(Node("Expr", name("y")))
            return node.lineno

        found = visit(tree, {"Expr": change, "Name": lambda node: names.append(node["id"])})
        self.assertEqual(found, [1, None, 2, None, 3, None])
        self.assertEqual(names, ["a", "b", "c"])
        self.assertEqual(len(tree["body"]), 6)

    def test_random_trees(self):
        for seed in range(7800, 7820):
            tree = Maker(seed).tree()
            before = snapshot(tree)
            found = visit(tree, {kind: lambda node: node for kind in KINDS})
            self.assertEqual([id(node) for node in found], [id(node) for node in nodes_in(tree)])
            self.assertEqual(snapshot(tree), before)

    def test_what_is_passed_over(self):
        hidden = Node("Pass")
        node = Node("Module", [[hidden], (hidden,), "Pass", None])
        self.assertEqual(visit(node, {"Pass": lambda part: 1, "Module": lambda part: 2}), [2])

    def test_an_error_in_a_function(self):
        tree = parse("a; b; c")
        called = []

        def fail(node):
            called.append(node)
            raise KeyError(1)

        with self.assertRaises(KeyError):
            visit(tree, {"Name": fail})
        self.assertEqual(len(called), 1)

    def test_handlers_are_not_changed(self):
        handlers = {"Name": lambda node: 1}
        before = dict(handlers)
        visit(parse("a"), handlers)
        transform(parse("a"), {"Name": lambda node: node})
        self.assertEqual(handlers, before)

    def test_what_is_no_node(self):
        for thing in NO_NODES + NO_NODES_BUT_STRINGS:
            for handlers in ({}, {"Pass": len}):
                with self.assertRaises(BadNode):
                    visit(thing, handlers)
                with self.assertRaises(BadNode):
                    transform(thing, handlers)


class TransformTest(unittest.TestCase):
    def assert_text(self, text, handlers, wanted):
        tree = parse(text)
        before = snapshot(tree)
        self.assertEqual(unparse(transform(tree, handlers)), wanted)
        self.assertEqual(snapshot(tree), before)

    def assert_change(self, tree, handlers, kind, field):
        before = snapshot(tree)
        with self.assertRaises(BadChange) as caught:
            transform(tree, handlers)
        self.assertEqual((caught.exception.kind, caught.exception.name), (kind, field))
        self.assertEqual(snapshot(tree), before)

    def test_without_handlers(self):
        trees = [parse(text) for text in PROGRAMS] + [sample(kind) for kind in KINDS]
        trees += [Maker(seed).tree() for seed in range(7900, 7940)]
        for tree in trees:
            before = snapshot(tree)
            for handlers in ({}, {"Nothing": len}, {kind: lambda node: node for kind in KINDS}):
                made = transform(tree, handlers)
                self.assertIsNone(difference(tree, made, True))
                self.assertIsNone(compare(tree, made, True))
                found = nodes_and_lists(made)
                self.assertEqual(len(found), len(set(found)))
                self.assertFalse(set(found) & set(nodes_and_lists(tree)))
            self.assertEqual(snapshot(tree), before)

    def test_order_of_calls(self):
        for text in PROGRAMS:
            tree = parse(text)
            calls = []

            def note(node):
                calls.append(dump(node, True, True))
                return node

            transform(tree, {kind: note for kind in KINDS})
            self.assertEqual(calls, [dump(node, True, True) for node in upwards(tree)])
        order = []
        transform(parse("a if b else c", "eval"), {"Name": lambda node: order.append(node["id"]) or node})
        self.assertEqual(order, ["b", "a", "c"])

    def test_what_functions_are_called_with(self):
        tree = parse("f(a, b)")
        given = []

        def note(node):
            given.append(node)
            return node

        made = transform(tree, {kind: note for kind in KINDS})
        self.assertEqual([id(node) for node in given], [id(node) for node in upwards(made)])
        self.assertFalse({id(node) for node in given} & {id(node) for node in nodes_in(tree)})
        self.assertEqual([place(node) for node in given], [place(node) for node in upwards(tree)])

    def test_another_node(self):
        self.assert_text("a = b.c + f(d)", {"Name": lambda node: Node("Name", node["id"] * 2, node["ctx"])},
            "aa = bb.c + ff(dd)")
        self.assert_text("a + 1", {"Constant": lambda node: name("x"), "Add": lambda node: Node("Sub")}, "a - x")
        self.assert_text("-(a + b)", {"UnaryOp": lambda node: node["operand"]}, "a + b")
        self.assert_text("pass", {"Module": lambda node: Node("Module", [Node("Break")])}, "break")
        # Whether a tree comes of it is not asked.
        made = transform(parse("a + b"), {"Name": lambda node: Node("Pass")})
        self.assertFalse(is_tree(made))
        self.assertEqual(made["body"][0]["value"]["left"].kind, "Pass")
        made = transform(parse("a", "eval"), {"Expression": lambda node: node["body"]})
        self.assertEqual((made.kind, made["id"]), ("Name", "a"))

    def test_the_very_node_that_was_returned(self):
        new = [Node("Name", "x"), Node("Pass"), Node("Break")]
        made = transform(parse("a = b\nc"), {
            "Name": lambda node: new[0] if node["id"] == "b" else node,
            "Expr": lambda node: new[1:],
        })
        self.assertIs(made["body"][0]["value"], new[0])
        self.assertIs(made["body"][1], new[1])
        self.assertIs(made["body"][2], new[2])
        copies = []
        made = transform(parse("a"), {"Name": lambda node: copies.append(node) or node})
        self.assertIs(made["body"][0]["value"], copies[0])
        root = Node("Load")
        self.assertIs(transform(parse("a"), {"Module": lambda node: root}), root)

    def test_what_was_returned_is_not_visited_again(self):
        self.assert_text("a", {"Name": lambda node: Node("List", [name("b"), Node("Tuple")])}, "[b, ()]")
        many = []

        def grow(node):
            many.append(1)
            return [Node("Expr", name("x")), Node("Pass"), Node("Expr", Node("Constant", 1))]

        made = transform(parse("a\nb"), {"Expr": grow, "Pass": grow, "Constant": grow})
        self.assertEqual(unparse(made), "x\npass\n1\nx\npass\n1")
        self.assertEqual(len(many), 2)

    def test_none_and_lists_in_lists(self):
        self.assert_text("a\nb\nc", {"Expr": lambda node: None}, "")
        self.assert_text("a\npass\nb", {"Pass": lambda node: None}, "a\nb")
        self.assert_text("a\npass\nb", {"Pass": lambda node: []}, "a\nb")
        self.assert_text("a\npass\nb", {"Pass": lambda node: [Node("Break"), node, Node("Continue")]},
            "a\nbreak\npass\ncontinue\nb")
        self.assert_text("f(a, b, c)", {"Name": lambda node: None if node["id"] == "b" else node}, "f(a, c)")
        self.assert_text("[a, [b, c], d]", {"List": lambda node: node if len(node["elts"]) > 2 else node["elts"]},
            "[a, b, c, d]")
        self.assert_text("f(a=b, **c)", {"keyword": lambda node: [node, Node("keyword", "d", name("e"))]},
            "f(a=b, d=e, **c, d=e)")
        for flat in (lambda node: None, lambda node: []):
            made = transform(parse("if a: pass"), {"Pass": flat})
            self.assertEqual(made["body"][0]["body"], [])
            made = transform(parse("a < b", "eval")["body"], {"Lt": flat, "Name": lambda node: node})
            self.assertEqual(made["ops"], [])

    def test_lists_whose_items_may_be_none(self):
        made = transform(parse("{a: b, **c, d: e}", "eval")["body"],
            {"Name": lambda node: None if node["id"] in "ad" else node})
        self.assertEqual([key for key in made["keys"]], [None])
        self.assertEqual([value["id"] for value in made["values"]], ["b", "c", "e"])
        made = transform(parse("{a: b, **c}", "eval")["body"],
            {"Name": lambda node: [node, name("x")] if node["id"] == "a" else node})
        self.assertEqual([key and key["id"] for key in made["keys"]], ["a", "x", None])
        made = transform(parse("lambda *, a=b, c, d=e: f", "eval")["body"],
            {"Name": lambda node: None if node["id"] == "b" else node})
        self.assertEqual([value and value["id"] for value in made["args"]["kw_defaults"]], [None, "e"])

    def test_none_in_other_fields(self):
        self.assert_text("return a", {"Name": lambda node: None}, "return")
        self.assert_text("raise a from b", {"Name": lambda node: None if node["id"] == "b" else node}, "raise a")
        self.assert_text("with a as b: c", {"Name": lambda node: None if node["id"] == "b" else node},
            "with a:\n    c")
        self.assert_text("def f(a: b) -> c: d", {"Name": lambda node: None if node["id"] in "bc" else node},
            "def f(a):\n    d")
        self.assert_text("lambda *a, **b: c", {"arg": lambda node: None}, "lambda: c")
        self.assert_text("a[b:c:d]", {"Name": lambda node: None if node["id"] in "bd" else node}, "a[:c]")
        self.assert_text("f'{a:b}'", {"JoinedStr": lambda node: node if node["values"][0].kind != "Constant" else None},
            "f'{a}'")

    def test_each_field_of_each_kind(self):
        """What may stand where a node was, and the error for what may not."""
        bad = (1, 0, "", "a", True, False, (), (Node("Pass"),), {}, 1.5, object(), Dots(), Node, [None], [1],
            [Node("Pass"), None], [[Node("Pass")]], [()])
        for kind in KINDS:
            for field, rule in TABLE[kind]:
                word, mark = split_rule(rule)
                node = sample(kind)
                inner = node[field][0] if isinstance(node[field], list) else node[field]
                if not isinstance(inner, Node):
                    continue
                for thing in bad:
                    self.assert_change(Node("Module", [node]), self.once(inner, thing), kind, field)
                new, other = Node("Continue"), Node("Global")
                self.assertIs(self.only(transform(node, self.once(inner, new))[field]), new)
                if mark in ("*", "+", "(?)*"):
                    for thing, wanted in ((None, []), ([], []), ([new], [new]), ([new, other], [new, other])):
                        found = transform(node, self.once(inner, thing))[field]
                        self.assertEqual(found, wanted)
                        self.assertIsNot(found, thing)
                else:
                    for thing in ([], [new], [new, other]):
                        self.assert_change(node, self.once(inner, thing), kind, field)
                    if mark == "?":
                        self.assertIsNone(transform(node, self.once(inner, None))[field])
                    else:
                        self.assert_change(node, self.once(inner, None), kind, field)

    def only(self, value):
        return value[0] if isinstance(value, list) and len(value) == 1 else value

    def once(self, inner, thing):
        """Return handlers that return something for the copy of one node, and all other copies as they are."""
        inner.lineno = "this one"
        return {inner.kind: lambda node: thing if node.lineno == "this one" else node}

    def test_nodes_at_unusual_places(self):
        # No field but those marked with ? lets None by, whatever it holds.
        for node, field in ((Node("Constant", Node("Pass")), "value"), (Node("Module", Node("Pass")), "body"),
            (Node("Dict", Node("Pass")), "keys"), (Node("MatchSingleton", Node("Pass")), "value")):
            self.assert_change(node, {"Pass": lambda part: None}, node.kind, field)
            self.assert_change(node, {"Pass": lambda part: [part]}, node.kind, field)
            new = Node("Break")
            self.assertIs(transform(node, {"Pass": lambda part: new})[field], new)
        node = Node("Name", [Node("Pass"), "a"])
        self.assertEqual(transform(node, {"Pass": lambda part: None})["id"], ["a"])
        self.assertIsNone(transform(Node("alias", "a", Node("Pass")), {"Pass": lambda part: None})["asname"])

    def test_the_node_that_was_passed(self):
        for thing in (None, [], [Node("Pass")], (), 1, "", True, object(), Node):
            for tree in (parse("a"), Node("Pass"), name("a"), Node("Return", Node("Pass")), Node("Load")):
                self.assert_change(tree, {tree.kind: lambda node: thing}, tree.kind, "")
        # The same kind further in is told with the node around it.
        tree = Node("List", [Node("List")])
        self.assert_change(tree, {"List": lambda node: node if node["elts"] else 1}, "List", "elts")

    def test_at_once(self):
        called = []

        def note(node):
            called.append(node["id"])
            return 1 if node["id"] == "b" else node

        self.assert_change(parse("f(a, b, c)\nd"), {"Name": note}, "Call", "args")
        self.assertEqual(called, ["f", "a", "b"])
        called.clear()
        self.assert_change(parse("a = b"), {"Name": note, "Assign": lambda node: called.append("=")}, "Assign",
            "value")
        self.assertEqual(called, ["a", "b"])
        called.clear()
        self.assert_change(parse("[b, a]"), {"Name": note, "List": note}, "List", "elts")
        self.assertEqual(called, ["b"])

    def test_an_error_in_a_function(self):
        tree = parse("a\nb")
        before = snapshot(tree)

        def fail(node):
            node["id"] = "z"
            raise KeyError(1)

        with self.assertRaises(KeyError):
            transform(tree, {"Name": fail})
        self.assertEqual(snapshot(tree), before)

    def test_attributes(self):
        tree = Node("Expr", Node("Name", "a", lineno="x", end_lineno=-1), col_offset=5)
        tree["value"]["ctx"].lineno = 3
        made = transform(tree, {"Load": lambda node: node})
        self.assertIsNone(difference(made, tree, True))
        made = transform(parse("a"), {"Name": lambda node: name("b")})
        self.assertEqual(place(made["body"][0]["value"]), (None, None, None, None))
        self.assertEqual(place(made["body"][0]), (1, 0, 1, 1))

    def test_lists_in_lists_and_other_values(self):
        hidden, marker = Node("Name", "a", lineno=3), object()
        tree = Node("Module", [[hidden, [hidden["ctx"], marker]], (1, 2), None, Node("Pass"), "a"])
        called = []
        made = transform(tree, {"Name": called.append, "Load": called.append, "Pass": lambda node: [node, node]})
        self.assertEqual(called, [])
        body = made["body"]
        self.assertEqual(len(body), 6)
        self.assertIsNone(difference(body[0][0], hidden, True))
        self.assertIs(body[0][1][1], marker)
        self.assertEqual((body[1], body[2], body[5]), ((1, 2), None, "a"))
        shared = set(nodes_and_lists(made)) & set(nodes_and_lists(tree))
        self.assertFalse(shared)
        value = Float(1, 2)
        self.assertIs(transform(Node("Constant", value), {})["value"], value)

    def test_a_change_in_the_new_tree(self):
        tree = parse("f(a, [b])\nglobal c")
        before = snapshot(tree)
        made = transform(tree, {"Name": lambda node: node})
        made["body"][0]["value"]["args"].clear()
        made["body"][1]["names"].append("d")
        made["body"].clear()
        self.assertEqual(snapshot(tree), before)

    def test_chains_and_long_lists(self):
        node = name("a")
        for step in range(40):
            node = Node("UnaryOp", Node("Not"), node) if step & 1 else Node("List", [node])
        made = transform(node, {"UnaryOp": lambda part: part["operand"], "List": lambda part: part["elts"][0]})
        self.assertEqual(made["id"], "a")
        node = Node("List", [name(f"a{step}") for step in range(300)])
        made = transform(node, {"Name": lambda part: [part, name("b")] if part["id"] != "a7" else None})
        self.assertEqual(len(made["elts"]), 598)
        self.assertEqual([part["id"] for part in made["elts"][12:16]], ["a6", "b", "a8", "b"])

    def test_names_of_arguments(self):
        made = transform(handlers={"Name": lambda node: Node("Name", "b")}, node=parse("a"))
        self.assertEqual(unparse(made), "b")


class HoldsTest(unittest.TestCase):
    """DOC.md [45]."""

    def handlers(self, seed):
        """Return functions, for different kinds, that change plain values alone."""
        chance = Maker(seed)

        def rename(node):
            node["id"] = node["id"] + "_"
            return node

        def rename_arg(node):
            node["arg"] = "p" + node["arg"]
            return node

        def count(node):
            if type(node["value"]) is int:
                node["value"] += 3
            elif type(node["value"]) is str:
                node["value"] += "'\\\n{"
            return node

        def hide(node):
            node["attr"] = node["attr"] * 2
            return node

        def level(node):
            node["level"] += 1
            return node

        made = {"Name": rename, "arg": rename_arg, "Constant": count, "Attribute": hide, "ImportFrom": level}
        kinds = list(made)
        chance.chance.shuffle(kinds)
        many = chance.chance.randint(1, 4)
        return [{kind: made[kind] for kind in kinds[:many]}, {kind: made[kind] for kind in kinds[many:]}]

    def test_two_calls_do_what_one_does(self):
        for seed in range(8000, 8060):
            tree = Maker(seed).tree()
            first, second = self.handlers(seed)
            wanted = transform(tree, {**first, **second})
            self.assertIsNone(compare(transform(transform(tree, first), second), wanted, True))
            self.assertIsNone(compare(transform(transform(tree, second), first), wanted, True))

    def test_readable_trees_stay_readable(self):
        for seed in range(8100, 8180):
            maker = Maker(seed)
            tree = maker.tree()
            if {"Match", "JoinedStr"} & {node.kind for node in nodes_in(tree)}:
                continue

            def operator(node):
                node["op"] = maker.operator("OPERATOR")
                return node

            def rename(node):
                node["id"] = maker.pick("x", "_", "match", "case", "y9")
                return node

            def rename_arg(node):
                node["arg"] = maker.pick("x", "_", "type", "y9")
                return node

            def exchange(node):
                if type(node["value"]) is int:
                    node["value"] = maker.pick(0, 1, 10 ** 150)
                elif type(node["value"]) is str:
                    node["value"] = maker.pick("a", "'", "\n\t", "{", "\\")
                return node

            made = transform(tree, {"BinOp": operator, "Name": rename, "arg": rename_arg, "Constant": exchange})
            text = unparse(made)
            self.assertIsNone(compare(read_again(text, made), made), text)


if __name__ == "__main__":
    unittest.main()
