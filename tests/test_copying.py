"""Copies, and the places of nodes: DOC.md [40], and [12] for what is shared."""

import unittest

from treequill.errors import BadNode
from treequill.nodes import Node, fields_of
from treequill.reading import parse
from treequill.values import Octets
from treequill.walking import copy_location, copy_tree, fix_missing_locations, increment_lineno

from helping import (
    ATTRIBUTES, NO_NODES, NO_NODES_BUT_STRINGS, difference, nodes_and_lists, nodes_in, place, snapshot,
)
from maker import Maker
from table import KINDS, MARKED, sample
from test_refused import PROGRAMS


def trees():
    made = [parse(text) for text in PROGRAMS] + [sample(kind) for kind in KINDS]
    return made + [Maker(seed).tree() for seed in range(7200, 7240)]


def set_place(node, values):
    for name, value in zip(ATTRIBUTES, values):
        setattr(node, name, value)
    return node


def linked(node, above=()):
    """Return pairs of each node in a node and the tuple of those above it, the nearest one first."""
    found = [(node, above)]
    for name in fields_of(node.kind):
        value = node[name]
        for item in value if isinstance(value, list) else [value]:
            if isinstance(item, Node):
                found += linked(item, (node, *above))
    return found


class CopyTest(unittest.TestCase):
    def test_a_copy_is_equal_and_shares_nothing(self):
        for tree in trees():
            before = snapshot(tree)
            copy = copy_tree(tree)
            self.assertIsNone(difference(tree, copy, True))
            found = nodes_and_lists(copy)
            self.assertEqual(len(found), len(set(found)))
            self.assertFalse(set(found) & set(nodes_and_lists(tree)))
            self.assertEqual(snapshot(tree), before)

    def test_places_of_all_sorts(self):
        marker = object()
        for values in ((1, 2, 3, 4), (None, 2, None, 4), (0, -1, 10 ** 20, 0), ("a", True, marker, 1.5)):
            inner = set_place(Node("Name", "a"), values)
            set_place(inner["ctx"], values[::-1])
            copy = copy_tree(set_place(Node("Expr", inner), values))
            self.assertIs(copy.lineno, values[0])
            self.assertEqual(place(copy), values)
            self.assertEqual(place(copy["value"]), values)
            self.assertEqual(place(copy["value"]["ctx"]), values[::-1])

    def test_lists_in_lists_and_other_values(self):
        hidden, deep = set_place(Node("Name", "a"), (1, 2, 3, 4)), Node("Name", "b")
        marker, octets = object(), Octets((1, 2))
        node = Node("Module", [[hidden, [deep, []], marker], (1, 2), None, "a", octets, [], True])
        copy = copy_tree(node)
        body, first = copy["body"], copy["body"][0]
        self.assertEqual(body[1:], [(1, 2), None, "a", octets, [], True])
        self.assertIs(body[4], octets)
        self.assertIs(body[6], True)
        self.assertIs(first[2], marker)
        self.assertIsNone(difference(first[0], hidden, True))
        self.assertIsNone(difference(first[1][0], deep, True))
        self.assertEqual(first[1][1], [])
        found = nodes_and_lists(copy)
        self.assertEqual(len(found), 10)
        self.assertFalse(set(found) & set(nodes_and_lists(node)))

    def test_what_has_no_nodes_is_kept(self):
        for value in ((1, (2,)), "a", 5, None, True, object(), {"a": 1}, 1.5, int):
            self.assertIs(copy_tree(Node("Constant", value))["value"], value)

    def test_a_change_in_one_does_not_change_the_other(self):
        tree = parse("f(a, b)\nglobal c")
        copy = copy_tree(tree)
        copy["body"][0]["value"]["args"].pop()
        copy["body"][1]["names"].append("d")
        copy["body"][0]["value"]["func"]["id"] = "g"
        copy["body"][0]["value"]["func"]["ctx"] = None
        copy["body"][0].lineno = 7
        copy["body"].append(Node("Pass"))
        self.assertIsNone(difference(tree, parse("f(a, b)\nglobal c"), True))
        other = copy_tree(tree)
        tree["body"].clear()
        self.assertIsNone(difference(other, parse("f(a, b)\nglobal c"), True))

    def test_chains_and_long_lists(self):
        node = Node("Name", "a")
        for at in range(40):
            node = Node("UnaryOp", Node("Not"), node) if at & 1 else Node("List", [node])
        node = Node("Tuple", [Node("Name", f"b{at}") for at in range(300)] + [node])
        self.assertIsNone(difference(node, copy_tree(node), True))


class CopyLocationTest(unittest.TestCase):
    def test_some_of_the_four(self):
        for chosen in range(16):
            values = [at + 10 if chosen >> at & 1 else None for at in range(4)]
            for held in ((1, 2, 3, 4), (None, None, None, None), (None, 2, 3, None)):
                new, old = set_place(Node("Name", "a"), held), set_place(Node("Pass"), values)
                self.assertIs(copy_location(new, old), new)
                self.assertEqual(place(new), tuple(
                    kept if value is None else value for kept, value in zip(held, values)
                ))
                self.assertEqual(place(old), tuple(values))

    def test_values_that_are_false(self):
        new = set_place(Node("Pass"), (1, 2, 3, 4))
        copy_location(new, set_place(Node("Pass"), (0, 0, False, "")))
        self.assertEqual([new.lineno, new.col_offset, new.end_lineno, new.end_col_offset], [0, 0, False, ""])

    def test_nothing_else_changes(self):
        tree, other = parse("a + b"), parse("\n\n  (c\n * d)".replace("\n  ", "\n"))
        new, old = tree["body"][0]["value"], other["body"][0]["value"]
        wanted = [place(node) for node in nodes_in(tree)]
        before, fields = snapshot(other), snapshot(new)[3]
        copy_location(new, old)
        self.assertEqual(place(new), (3, 1, 4, 4))
        self.assertEqual(snapshot(other), before)
        self.assertEqual(snapshot(new)[3], fields)
        wanted[nodes_in(tree).index(new)] = (3, 1, 4, 4)
        self.assertEqual([place(node) for node in nodes_in(tree)], wanted)

    def test_kinds_without_places_and_the_node_itself(self):
        new = Node("Load")
        copy_location(new, parse("a")["body"][0])
        self.assertEqual(place(new), (1, 0, 1, 1))
        copy_location(new, new)
        self.assertEqual(place(new), (1, 0, 1, 1))

    def test_names_of_arguments(self):
        new, old = Node("Pass"), set_place(Node("Pass"), (5, 6, 7, 8))
        self.assertIs(copy_location(old=old, new=new), new)
        self.assertEqual(place(new), (5, 6, 7, 8))

    def test_what_is_no_node(self):
        for thing in NO_NODES + NO_NODES_BUT_STRINGS:
            node = Node("Pass")
            filled = set_place(Node("Pass"), (1, 2, 3, 4))
            for new, old in ((node, thing), (thing, filled), (thing, thing)):
                with self.assertRaises(BadNode):
                    copy_location(new, old)
            self.assertEqual(place(node), (None, None, None, None))
            self.assertEqual(place(filled), (1, 2, 3, 4))


class FixTest(unittest.TestCase):
    def test_all_missing(self):
        for kind in KINDS:
            node = sample(kind)
            self.assertIs(fix_missing_locations(node), node)
            for part in nodes_in(node):
                wanted = (1, 0, 1, 0) if part.kind in MARKED else (None, None, None, None)
                self.assertEqual(place(part), wanted, (kind, part.kind))

    def test_the_nearest_marked_node_above(self):
        tree = parse("f(a for b in c)")
        for node in nodes_in(tree):
            set_place(node, (None, None, None, None))
        call = tree["body"][0]["value"]
        set_place(call, (5, 6, 7, 8))
        set_place(call["args"][0], (None, 60, None, None))
        row = call["args"][0]["generators"][0]
        set_place(row, (50, 51, 52, 53))
        set_place(row["target"], (None, None, 9, None))
        fix_missing_locations(tree)
        self.assertEqual(place(tree), (None, None, None, None))
        self.assertEqual(place(tree["body"][0]), (1, 0, 1, 0))
        self.assertEqual(place(call), (5, 6, 7, 8))
        self.assertEqual(place(call["func"]), (5, 6, 7, 8))
        self.assertEqual(place(call["args"][0]), (5, 60, 7, 8))
        # A comprehension has no places of its own, so what stands in it takes those of the one around.
        self.assertEqual(place(row), (50, 51, 52, 53))
        self.assertEqual(place(row["target"]), (5, 60, 9, 8))
        self.assertEqual(place(row["iter"]), (5, 60, 7, 8))
        self.assertEqual(place(row["iter"]["ctx"]), (None, None, None, None))

    def test_only_what_is_passed_counts(self):
        tree = parse("a + b")
        for node in nodes_in(tree["body"][0]["value"]):
            set_place(node, (None, None, None, None))
        fix_missing_locations(tree["body"][0]["value"]["left"])
        self.assertEqual(place(tree["body"][0]["value"]["left"]), (1, 0, 1, 0))
        self.assertEqual(place(tree["body"][0]["value"]), (None, None, None, None))
        fix_missing_locations(tree)
        self.assertEqual(place(tree["body"][0]["value"]), (1, 0, 1, 5))
        self.assertEqual(place(tree["body"][0]["value"]["left"]), (1, 0, 1, 0))
        self.assertEqual(place(tree["body"][0]["value"]["right"]), (1, 0, 1, 5))

    def test_random_places(self):
        for seed in range(7300, 7340):
            maker = Maker(seed)
            tree = maker.tree()
            for node in nodes_in(tree):
                set_place(node, [maker.pick(None, None, 0, 3, 70) for _ in range(4)])
            wanted = []
            for node, above in linked(tree):
                values = []
                for at, name in enumerate(ATTRIBUTES):
                    # The value that is nearest in a chain of marked nodes, as each one of them passes its own on.
                    chain = [getattr(part, name) for part in (node, *above) if part.kind in MARKED]
                    held = [value for value in chain if value is not None]
                    values.append((held or [(1, 0, 1, 0)[at]])[0])
                wanted.append(tuple(values) if node.kind in MARKED else place(node))
            kinds = [node.kind for node in nodes_in(tree)]
            self.assertIs(fix_missing_locations(node=tree), tree)
            self.assertEqual([place(node) for node in nodes_in(tree)], wanted)
            self.assertEqual([node.kind for node in nodes_in(tree)], kinds)

    def test_whole_trees_stay(self):
        for text in PROGRAMS:
            tree = parse(text)
            before = snapshot(tree)
            fix_missing_locations(tree)
            self.assertEqual(snapshot(tree), before)

    def test_what_is_passed_over(self):
        hidden = Node("Pass")
        node = Node("If", [[hidden]], (hidden,), None)
        fix_missing_locations(node)
        self.assertEqual(place(hidden), (None, None, None, None))
        self.assertEqual(place(node), (1, 0, 1, 0))

    def test_what_is_no_node(self):
        for thing in NO_NODES + NO_NODES_BUT_STRINGS:
            with self.assertRaises(BadNode):
                fix_missing_locations(thing)


class IncrementTest(unittest.TestCase):
    def test_lines_are_moved(self):
        for many in (1, 0, 3, -1, -7, 10 ** 20):
            for text in PROGRAMS:
                tree = parse(text)
                wanted = [
                    (line + many, column, end + many, last) if line is not None else (None, None, None, None)
                    for line, column, end, last in [place(node) for node in nodes_in(tree)]
                ]
                self.assertIs(increment_lineno(tree, many), tree)
                self.assertEqual([place(node) for node in nodes_in(tree)], wanted)
                self.assertIsNone(difference(tree, parse(text)))

    def test_by_one_without_a_number(self):
        tree = parse("a\n\nb")
        self.assertIs(increment_lineno(tree), tree)
        self.assertEqual([place(node) for node in tree["body"]], [(2, 0, 2, 1), (4, 0, 4, 1)])
        increment_lineno(n=-2, node=tree["body"][1])
        self.assertEqual([place(node) for node in tree["body"]], [(2, 0, 2, 1), (2, 0, 2, 1)])
        self.assertEqual(place(tree["body"][1]["value"]), (2, 0, 2, 1))

    def test_where_they_are_not_none(self):
        for values in ((1, None, None, None), (None, 1, 5, 2), (None, None, None, None), (0, 0, 0, 0), (-3, None, 4, 0)):
            node = set_place(Node("Name", "a"), values)
            set_place(node["ctx"], values)
            increment_lineno(node, 4)
            wanted = (None if values[0] is None else values[0] + 4, values[1],
                None if values[2] is None else values[2] + 4, values[3])
            self.assertEqual(place(node), wanted)
            # Nodes of all kinds are moved if they have lines.
            self.assertEqual(place(node["ctx"]), wanted)

    def test_a_part_of_a_tree(self):
        tree = parse("a + b\nc")
        increment_lineno(tree["body"][0]["value"]["left"], 5)
        found = [place(node)[0] for node in nodes_in(tree) if node.kind in MARKED]
        self.assertEqual(found, [1, 1, 6, 1, 2, 2])

    def test_what_is_passed_over(self):
        hidden = set_place(Node("Pass"), (1, 2, 3, 4))
        increment_lineno(Node("Module", [[hidden], (hidden,)]))
        self.assertEqual(place(hidden), (1, 2, 3, 4))

    def test_what_is_no_node(self):
        for thing in NO_NODES + NO_NODES_BUT_STRINGS:
            for more in ((), (2,)):
                with self.assertRaises(BadNode):
                    increment_lineno(thing, *more)


class CopyOfOtherThingsTest(unittest.TestCase):
    def test_what_is_no_node(self):
        for thing in NO_NODES + NO_NODES_BUT_STRINGS:
            with self.assertRaises(BadNode):
                copy_tree(thing)
            with self.assertRaises(BadNode):
                copy_tree(node=thing)


if __name__ == "__main__":
    unittest.main()
