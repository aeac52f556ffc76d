"""Promises 12 and 13, and what 3 and 4 ask of nodes: how they are made, read and changed."""

import unittest

from table import KINDS, TABLE, sample, split_rule
from treequill import nodes
from treequill.errors import BadField, BadKind, TreeError
from treequill.nodes import Node, fields_of

ATTRIBUTES = ("lineno", "col_offset", "end_lineno", "end_col_offset")
NO_KINDS = (
    "", "name", "NAME", "Name ", " Name", "Name\n", "Names", "Nam", "TryStar", "Index", "mod", "stmt", "EXPR", "Num",
    "body", None, True, 0, 1, 1.5, b"Name", ("Name",), ["Name"], {"Name": 1}, {"Name"}, object(), Node, str,
    Node("Name"), ("Name", "a"), (), [],
)
NO_FIELDS = (
    "", "kind", "self", "lineno", "col_offset", "end_lineno", "end_col_offset", "Id", "id ", "_fields", "other",
    None, True, False, 0, 1, -1, 1.5, b"id", ("id",), ("id", 0), ["id"], {"id": 1}, {"id"}, object(), Node, str,
    Node("Name"), slice(None), ...,
)


def names_of(kind):
    return tuple(name for name, _ in TABLE[kind])


class NodesTest(unittest.TestCase):
    def assertFault(self, made, fields, call, *args, **more):
        """Ask for just this class of error, with just these objects."""
        with self.assertRaises(TreeError) as caught:
            call(*args, **more)
        self.assertIs(type(caught.exception), made)
        told = vars(caught.exception)
        self.assertEqual(list(told), ["kind", "name"][:len(fields)])
        for one, other in zip(told.values(), fields):
            self.assertIs(type(one), type(other))
            self.assertTrue(one is other or one == other)

    def assertDefault(self, value, name, rule):
        if split_rule(rule)[1] in ("*", "+", "(?)*"):
            self.assertIs(type(value), list)
            self.assertEqual(value, [])
        elif name == "ctx":
            self.assertIs(type(value), Node)
            self.assertEqual(value.kind, "Load")
            self.assertEqual([getattr(value, name) for name in ATTRIBUTES], [None] * 4)
        else:
            self.assertIsNone(value)

    def test_fields_of(self):
        for kind in KINDS:
            self.assertIs(type(fields_of(kind)), tuple)
            self.assertEqual(fields_of(kind), names_of(kind))
        self.assertEqual(fields_of(kind="Name"), ("id", "ctx"))
        self.assertEqual(fields_of("Pass"), ())
        self.assertEqual(fields_of("Module"), ("body",))
        self.assertEqual(fields_of("ExceptHandler"), ("exc", "name", "body"))

    def test_what_is_no_kind(self):
        for thing in NO_KINDS:
            self.assertFault(BadKind, [thing], fields_of, thing)
            self.assertFault(BadKind, [thing], Node, thing)

    def test_fields_by_position(self):
        for kind in KINDS:
            names = names_of(kind)
            values = [object() for _ in names]
            for many in range(len(names) + 1):
                node = Node(kind, *values[:many])
                self.assertIs(node.kind, kind)
                for name, value in zip(names[:many], values):
                    self.assertIs(node[name], value)
                for name, rule in TABLE[kind][many:]:
                    self.assertDefault(node[name], name, rule)

    def test_fields_by_name(self):
        for kind in KINDS:
            for one, _ in TABLE[kind]:
                value = object()
                node = Node(kind, **{one: value})
                self.assertIs(node[one], value)
                for name, rule in TABLE[kind]:
                    if name != one:
                        self.assertDefault(node[name], name, rule)

    def test_fields_by_position_and_name(self):
        for kind in KINDS:
            names = names_of(kind)
            values = dict((name, object()) for name in names)
            for many in range(len(names) + 1):
                # The names backwards: their order is free.
                more = dict((name, values[name]) for name in names[:many - 1 if many else None:-1])
                node = Node(kind, *[values[name] for name in names[:many]], **more)
                for name in names:
                    self.assertIs(node[name], values[name])

    def test_none_that_is_given_is_kept(self):
        node = Node("Name", None, None)
        self.assertIsNone(node["ctx"])
        self.assertIsNone(Node("Module", body=None)["body"])
        self.assertIsNone(Node("List", ctx=None)["ctx"])

    def test_defaults_are_new(self):
        for kind in KINDS:
            one, other = Node(kind), Node(kind)
            for name, rule in TABLE[kind]:
                self.assertDefault(one[name], name, rule)
                if one[name] is not None:
                    self.assertIsNot(one[name], other[name])
        one = Node("Call")
        self.assertIsNot(one["args"], one["keywords"])
        one["args"].append(1)
        self.assertEqual(one["keywords"], [])
        self.assertEqual(Node("Call")["args"], [])

    def test_the_list_that_was_passed(self):
        for passed in ([], [1], [None, [2]]):
            for node in (Node("Module", passed), Node("Module", body=passed)):
                self.assertIs(node["body"], passed)
                passed.append(3)
                self.assertIs(node["body"], passed)
                node["body"].append(4)
                self.assertEqual(passed[-2:], [3, 4])
        node = Node("Module")
        node["body"].append(1)
        self.assertEqual(node["body"], [1])
        node["body"] = passed
        self.assertIs(node["body"], passed)

    def test_tuples_and_others_are_kept(self):
        for thing in ((), (1,), "a", b"a", 0, True, None, {}, Node("Load")):
            self.assertIs(Node("Module", thing)["body"], thing)

    def test_too_many_parts(self):
        for kind in KINDS:
            many = len(names_of(kind))
            for more in (1, 2, 5):
                self.assertFault(BadField, [kind, many + more], Node, kind, *[None] * (many + more))

    def test_a_name_that_is_none(self):
        for kind in KINDS:
            for name in ("other", "Body", "", "a b", "Kind", "_fields", "line", "end"):
                self.assertFault(BadField, [kind, name], Node, kind, **{name: 1})
        self.assertFault(BadField, ["Name", "value"], Node, "Name", value=1)
        self.assertFault(BadField, ["Pass", "body"], Node, "Pass", body=[])

    def test_a_field_given_twice(self):
        for kind in KINDS:
            names = names_of(kind)
            for at, name in enumerate(names):
                parts = [None] * (at + 1)
                self.assertFault(BadField, [kind, name], Node, kind, *parts, **{name: None})
        self.assertFault(BadField, ["Name", "id"], Node, "Name", "a", id="a")

    def test_the_order_of_errors(self):
        self.assertFault(BadKind, ["Nam"], Node, "Nam", 1, 2, 3, other=1)
        self.assertFault(BadKind, [None], Node, None, 1, 2, 3, id=1)
        self.assertFault(BadField, ["Name", 3], Node, "Name", 1, 2, 3, other=1, id=2)
        self.assertFault(BadField, ["Pass", 1], Node, "Pass", 1, other=1)
        self.assertFault(BadField, ["Name", "b"], Node, "Name", "a", b=1, id=2, a=3)
        self.assertFault(BadField, ["Name", "id"], Node, "Name", "a", ctx=0, lineno=1, id=2, b=1)
        self.assertFault(BadField, ["Name", "z"], Node, "Name", lineno=1, id=2, z=1, a=1)

    def test_attributes_at_first(self):
        for kind in KINDS:
            node = Node(kind)
            self.assertEqual([getattr(node, name) for name in ATTRIBUTES], [None] * 4)

    def test_attributes_given(self):
        for kind in KINDS:
            for thing in (0, 7, -1, None, True, "a", [], (), object()):
                for name in ATTRIBUTES:
                    node = Node(kind, **{name: thing})
                    for other in ATTRIBUTES:
                        self.assertIs(getattr(node, other), thing if other == name else None)
        node = Node("Name", "a", end_col_offset=4, lineno=1, ctx=None, end_lineno=3, col_offset=2)
        self.assertEqual([getattr(node, name) for name in ATTRIBUTES], [1, 2, 3, 4])
        self.assertEqual((node["id"], node["ctx"]), ("a", None))

    def test_attributes_assigned(self):
        node, other = Node("Name", "a"), Node("Name", "a")
        for at, name in enumerate(ATTRIBUTES):
            setattr(node, name, at)
        self.assertEqual([getattr(node, name) for name in ATTRIBUTES], [0, 1, 2, 3])
        self.assertEqual([getattr(other, name) for name in ATTRIBUTES], [None] * 4)
        node.lineno = None
        self.assertIsNone(node.lineno)
        self.assertEqual(node["id"], "a")

    def test_fields_set(self):
        for kind in KINDS:
            node, other = sample(kind), sample(kind)
            for name in names_of(kind):
                value = object()
                node[name] = value
                self.assertIs(node[name], value)
                self.assertIsNot(other[name], value)
        node = Node("BinOp", 1, 2, 3)
        node["op"] = [4]
        self.assertEqual([node[name] for name in ("left", "op", "right")], [1, [4], 3])

    def test_what_is_no_name_of_a_field(self):
        for kind in ("Name", "Module", "Pass", "Load"):
            node = Node(kind, lineno=5)
            before = [node[name] for name in names_of(kind)]
            for thing in NO_FIELDS:
                self.assertFault(BadField, [kind, thing], node.__getitem__, thing)
                self.assertFault(BadField, [kind, thing], node.__setitem__, thing, 1)
            for name, value in zip(names_of(kind), before):
                self.assertIs(node[name], value)
            self.assertEqual((node.kind, node.lineno), (kind, 5))

    def test_equal_only_to_itself(self):
        for kind in KINDS:
            one, other = sample(kind), sample(kind)
            self.assertTrue(one == one)
            self.assertFalse(one != one)
            self.assertFalse(one == other)
            self.assertTrue(one != other)
            self.assertFalse(one == kind)
        self.assertFalse(Node("Pass") == Node("Pass"))
        self.assertFalse(Node("Constant", 1) == 1)
        self.assertFalse(Node("Pass") == None)  # noqa: E711
        self.assertIn(one, [other, one])
        self.assertNotIn(one, [other])

    def test_no_length_and_no_loop(self):
        with self.assertRaises(TypeError):
            iter(Node("Name"))
        with self.assertRaises(TypeError):
            len(Node("Name"))

    def test_where_things_are_defined(self):
        for name in ("Node", "fields_of", "is_tree"):
            self.assertEqual(getattr(nodes, name).__module__, "treequill.nodes")
        for name in ("__init__", "__getitem__", "__setitem__"):
            self.assertIn(name, vars(Node))


if __name__ == "__main__":
    unittest.main()
