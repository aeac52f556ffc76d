"""Promises 14, 15 and 16: which objects are trees."""

import re
import unittest

from table import GROUPS, KINDS, TABLE, sample, sample_of, split_rule
from treequill.nodes import Node, fields_of, is_tree
from treequill.values import Dots, Float, Imaginary, Octets

NAMES = ("a", "_", "__a1", "Z9z", "if", "None", "match", "x" * 300)
NO_NAMES = (
    "", " ", "1", "1a", "a b", "a-b", " a", "a ", "a\n", "\n", "a.", ".a", ".", "..", "a..b", "a.1", "a. b", "a.b.",
    "**", "*.a", "a.*", "a*", "* ", "\u00e9", "a\u0663", "\u00b5", "a.\u00e9", "%", "$", "\uff41",
)
DOTTED = ("a.b", "a.b.c", "_._", "if.else", "A1.b2")
NUMBERS = (-2, -1, 0, 1, 2, 3, 96, 97, 98, 113, 114, 115, 116, 255, 10 ** 199, -(10 ** 199))
VALUES = (
    Dots(), Dots, Float(1, 2), Float(None, []), Imaginary(Float(1, 2)), Imaginary("a"), Octets((1, 2)), Octets([-1]),
    Octets(Node("Pass")),
)
NO_VALUES = (
    0.0, 1.0, -1.0, 97.0, 1j, 0j, b"", b"a", ..., (), (1,), ("a",), {}, {"a": 1}, set(), object(), Node, str, len,
    NotImplemented, bytearray(b"a"), range(2),
)


class Plain:
    """An object that says that it equals everything."""

    kind = "Name"

    def __eq__(self, other):
        return True

    __hash__ = None


def singles():
    """Return objects of all sorts, nodes of every kind among them, but no lists."""
    things = [None, True, False, "*", Plain(), *NAMES, *NO_NAMES, *DOTTED, *NUMBERS, *VALUES, *NO_VALUES]
    return things + [sample(kind) for kind in KINDS]


def is_whole(thing):
    return type(thing) is int


def one_fits(kind, word, thing):
    """Tell whether an object is what a word of the table asks for."""
    name = "[A-Za-z_][A-Za-z_0-9]*"
    if word == "NAME":
        return type(thing) is str and re.fullmatch(name, thing) is not None
    if word == "DOTTED":
        if kind == "alias" and type(thing) is str and thing == "*":
            return True
        return type(thing) is str and re.fullmatch(f"{name}([.]{name})*", thing) is not None
    if word == "COUNT":
        return is_whole(thing) and thing >= 0
    if word == "0 or 1":
        return is_whole(thing) and thing in (0, 1)
    if word == "-1, 97, 114 or 115":
        return is_whole(thing) and thing in (-1, 97, 114, 115)
    if word == "None, True or False":
        return thing is None or thing is True or thing is False
    if word == "VALUE":
        return (
            thing is None or type(thing) in (bool, str, Dots, Float, Imaginary, Octets)
            or is_whole(thing) and thing >= 0
        )
    return type(thing) is Node and thing.kind in GROUPS.get(word, [word])


def fits(kind, rule, value):
    """Tell whether a value is what a rule of the table asks for."""
    word, mark = split_rule(rule)
    if mark in ("", "?"):
        return one_fits(kind, word, value) or mark == "?" and value is None
    if type(value) is not list or mark == "+" and value == []:
        return False
    return all(one_fits(kind, word, item) or mark == "(?)*" and item is None for item in value)


class TreesTest(unittest.TestCase):
    def assertTree(self, thing, expected, told=None):
        self.assertIs(is_tree(thing), expected, told)

    def with_field(self, kind, name, value):
        node = sample(kind)
        node[name] = value
        return node

    def test_samples_of_every_kind(self):
        for kind in KINDS:
            self.assertTree(sample(kind), True, kind)
            self.assertIs(is_tree(thing=sample(kind)), True)

    def test_no_nodes(self):
        for thing in (None, True, False, "*", Plain(), [], (), *NAMES, *NUMBERS, *VALUES, *NO_VALUES):
            self.assertTree(thing, False, repr(thing))
        self.assertTree([sample("Pass")], False)
        self.assertTree((sample("Pass"),), False)

    def test_each_field_with_single_values(self):
        for kind in KINDS:
            for name, rule in TABLE[kind]:
                for thing in singles():
                    node = self.with_field(kind, name, thing)
                    self.assertTree(node, fits(kind, rule, thing), (kind, name, thing))

    def test_each_field_with_lists(self):
        for kind in KINDS:
            for name, rule in TABLE[kind]:
                good = sample_of(split_rule(rule)[0])
                lists = [[], [[]], [[good]], [good], [good, good], (good,), (good, good), [(good,)], [good, [good]]]
                lists += [{"a": good}]
                for thing in singles():
                    lists += [[thing], [good, thing], [thing, good]]
                for value in lists:
                    node = self.with_field(kind, name, value)
                    self.assertTree(node, fits(kind, rule, value), (kind, name, value))

    def test_tuples_are_no_lists(self):
        for kind in KINDS:
            for name, rule in TABLE[kind]:
                if split_rule(rule)[1] in ("*", "+", "(?)*"):
                    self.assertTree(self.with_field(kind, name, ()), False)
                    self.assertTree(self.with_field(kind, name, tuple(sample_of(rule))), False)

    def test_nodes_without_fields_given(self):
        for kind in KINDS:
            empty = all(
                name == "ctx" or split_rule(rule)[1] in ("?", "*", "(?)*") or rule in ("VALUE", "None, True or False")
                for name, rule in TABLE[kind]
            )
            self.assertTree(Node(kind), empty, kind)

    def test_deep_in_a_tree(self):
        for wrong in (Node("Name", "1"), Node("Pass"), Node("Name", "a", None), Node("Set"), None, "a"):
            for many in (1, 5, 40):
                for inner, expected in ((Node("Name", "a"), True), (wrong, False)):
                    for _ in range(many):
                        inner = Node("BinOp", Node("Constant", 1), Node("Add"), Node("Tuple", [inner]))
                    block = [Node("If", Node("Constant", True), [Node("Pass"), Node("Expr", inner)])]
                    self.assertTree(Node("Module", [Node("Pass"), *block]), expected)

    def test_each_field_deep_in_a_tree(self):
        for kind in KINDS:
            for name, _ in TABLE[kind]:
                node = self.with_field(kind, name, object())
                self.assertTree(self.around(node), False, (kind, name))
            if kind not in ("Module", "Expression"):
                self.assertTree(self.around(sample(kind)), True, kind)

    def around(self, node):
        """Return a node around another one, as a field of it that lets that kind by."""
        for kind in KINDS:
            for name, rule in TABLE[kind]:
                word, mark = split_rule(rule)
                if node.kind in GROUPS.get(word, [word]):
                    return self.with_field(kind, name, [node] if mark in ("*", "+", "(?)*") else node)
        return node

    def test_much_deeper(self):
        inner = Node("Name", "a")
        for _ in range(20000):
            inner = Node("UnaryOp", Node("Not"), inner)
        self.assertTree(inner, True)
        # Taken apart by hand, so that it does not go away in one deep step.
        while inner.kind == "UnaryOp":
            inner = inner["operand"]

    def test_attributes_do_not_matter(self):
        node = Node("Name", "a", lineno="b", col_offset=[], end_lineno=-1, end_col_offset=None)
        self.assertTree(node, True)

    def test_words_that_programs_do_not_let_by(self):
        self.assertTree(Node("Name", "if"), True)
        self.assertTree(Node("alias", "*"), True)
        self.assertTree(Node("alias", "*", "a"), True)
        self.assertTree(Node("alias", "a", "*"), False)
        self.assertTree(Node("ImportFrom", "*", [Node("alias", "a")], 0), False)
        self.assertTree(Node("ImportFrom", None, [Node("alias", "*"), Node("alias", "*")], 0), True)
        self.assertTree(Node("ImportFrom", None, [Node("alias", "a")], 10 ** 9), True)
        self.assertTree(Node("ImportFrom", None, [Node("alias", "a")], False), False)
        self.assertTree(Node("Constant", "\x00\u00e9"), True)
        self.assertTree(Node("Constant", Octets(Float(Dots(), None))), True)
        self.assertTree(Node("Constant", -1), False)
        self.assertTree(Node("Compare", Node("Name", "a"), [Node("Eq")], [Node("Name", "a")] * 3), True)
        self.assertTree(Node("BoolOp", Node("And"), [Node("Name", "a")]), True)
        self.assertTree(Node("Try", [Node("Pass")]), True)
        self.assertTree(Node("Dict", [None, None], []), True)
        self.assertTree(Node("MatchMapping", [None], []), False)
        self.assertTree(Node("FormattedValue", Node("Name", "a"), -1, Node("Name", "a")), False)

    def test_after_a_change(self):
        node = Node("Module")
        self.assertTree(node, True)
        node["body"].append(Node("Return"))
        self.assertTree(node, True)
        node["body"][0]["value"] = Node("Return")
        self.assertTree(node, False)
        node["body"][0]["value"] = None
        self.assertTree(node, True)
        node["body"] = tuple(node["body"])
        self.assertTree(node, False)

    def test_asked_twice_and_nothing_changed(self):
        for kind in KINDS:
            for name, _ in TABLE[kind]:
                for node in (sample(kind), self.with_field(kind, name, object())):
                    before = self.told(node)
                    first = is_tree(node)
                    self.assertIs(is_tree(node), first)
                    self.assertEqual(self.told(node), before)

    def told(self, thing):
        """Return all that a node holds, so that two looks at it can be compared."""
        if isinstance(thing, list):
            return [id(thing), [self.told(item) for item in thing]]
        if not isinstance(thing, Node):
            return id(thing)
        places = [thing.lineno, thing.col_offset, thing.end_lineno, thing.end_col_offset]
        return [id(thing), thing.kind, places, [self.told(thing[name]) for name in fields_of(thing.kind)]]


if __name__ == "__main__":
    unittest.main()
