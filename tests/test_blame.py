"""Which trees have no text, and the node that is to blame: DOC.md [33] and [42]."""

import unittest

from treequill.errors import BadNode, NoText, TreeError
from treequill.nodes import Node
from treequill.reading import parse
from treequill.values import Dots, Float, Imaginary, Octets
from treequill.writing import unparse

from helping import blamed, difference, nodes_in, read_again
from maker import Maker
from table import GROUPS, KINDS, sample

LOAD, STORE, DEL = "Load", "Store", "Del"


def name(word="a", ctx=LOAD):
    return Node("Name", word, Node(ctx))


def const(value=1):
    return Node("Constant", value)


def star(value=None, ctx=LOAD):
    return Node("Starred", value or name(), Node(ctx))


def plain_arguments(**more):
    return Node("arguments", **more)


def case(pattern):
    """Return a match statement with one pattern."""
    return Node("Match", name(), [Node("match_case", pattern, None, [Node("Pass")])])


def value_pattern(value):
    return case(Node("MatchValue", value))


def key_pattern(key):
    return case(Node("MatchMapping", [key], [Node("MatchAs")]))


def class_pattern(cls):
    return case(Node("MatchClass", cls))


def attribute(value, ctx=LOAD):
    return Node("Attribute", value, "b", Node(ctx))


def minus(value):
    return Node("UnaryOp", Node("USub"), value)


def total(left, right, op="Add"):
    return Node("BinOp", left, Node(op), right)


PATTERN = (("cases", 0), "pattern")
IMAGINARY = Imaginary(Float(1, 0))


class BlameTest(unittest.TestCase):
    def assert_blamed(self, *rows):
        """Check the paths to blame, alone and deep in a program."""
        for node, path in rows:
            self.assertEqual(blamed(node), path, path)
        for node, path in rows:
            if path is None or node.kind in ("Module", "Expression"):
                continue
            if node.kind in GROUPS["STMT"]:
                inner = Node("If", name("x"), [Node("Pass"), node])
                outer = Node("Module", [Node("Pass"), Node("While", name("y"), [inner])])
                self.assertEqual(blamed(outer), (("body", 1), ("body", 0), ("body", 1), *path))
            elif path:
                inner = Node("Call", name("f"), [name("x")], [Node("keyword", "y", node)])
                outer = Node("Expression", Node("List", [const(0), Node("Await", inner)]))
                self.assertEqual(blamed(outer), ("body", ("elts", 1), "value", ("keywords", 0), "value", *path))

    def assert_fine(self, *nodes):
        for node in nodes:
            text = unparse(node)
            self.assertIsNone(difference(node, read_again(text, node)), text)

    def test_nodes_that_are_no_program_and_no_part_of_one(self):
        for thing in (None, 1, "a", [], (), {}, True, 1.5, b"a", object(), Dots(), Node, "Name", [Node("Pass")],
            Float(1, 0), NoText(())):
            with self.assertRaises(BadNode, msg=thing):
                unparse(thing)
        for kind in KINDS:
            if kind not in ("Module", "Expression") and kind not in GROUPS["STMT"] and kind not in GROUPS["EXPR"]:
                with self.assertRaises(BadNode, msg=kind):
                    unparse(sample(kind))
        self.assertTrue(issubclass(BadNode, TreeError) and issubclass(NoText, TreeError))

    def test_nodes_that_are_no_trees(self):
        for node in (Node("Name"), Node("Expr"), Node("Name", "1a"), Node("Return", 1), Node("Tuple", (name(),)),
            Node("Global", []), Node("If", name(), [], []), Node("Expr", Node("Pass")), Node("Constant", -1),
            Node("Constant", 1.5), Node("List", [name(), None]), Node("BinOp", name(), Node("And"), name()),
                     Node("Module", [Node("Expr", Node("List", [Node("Name", "a b")]))]), Node("Name", None)):
            with self.assertRaises(BadNode, msg=node.kind):
                unparse(node)
        # No tree at all counts ahead of a node to blame.
        with self.assertRaises(BadNode):
            unparse(Node("Module", [Node("Expr", star()), Node("Return", "a")]))

    def test_rule_1(self):
        self.assert_blamed(
            (star(), ()), (Node("Slice"), ()), (Node("FormattedValue", name(), -1), ()),
            (Node("Expr", star()), ("value",)), (Node("Return", star()), ("value",)),
            (Node("BinOp", star(), Node("Add"), name()), ("left",)), (Node("Starred", star()), ()),
            (Node("Tuple", [star(star())]), (("elts", 0), "value")), (Node("Call", star(), [], []), ("func",)),
            (Node("Dict", [star()], [name()]), (("keys", 0),)),
            (Node("Call", name(), [], [Node("keyword", None, star())]), (("keywords", 0), "value")),
            (Node("Subscript", name(), star()), ("slice",)),
            (Node("Subscript", name(), Node("List", [Node("Slice")])), ("slice", ("elts", 0))),
            (Node("Tuple", [Node("Slice")]), (("elts", 0),)),
            (Node("Subscript", name(), Node("Tuple", [Node("Tuple", [Node("Slice")])])),
            ("slice", ("elts", 0), ("elts", 0))), (Node("Expr", Node("Slice")), ("value",)),
            (Node("Subscript", Node("Slice"), name()), ("value",)),
            (Node("Subscript", name(), Node("Slice", Node("Slice"))), ("slice", "lower")),
            (Node("Expr", Node("FormattedValue", name(), -1)), ("value",)),
            (Node("List", [Node("FormattedValue", name(), -1)]), (("elts", 0),)),
            (Node("BoolOp", Node("Or"), [name(), Node("FormattedValue", name(), -1)]), (("values", 1),)),
            (Node("BoolOp", Node("Or"), [name(), star()]), (("values", 1),)),
            (Node("Delete", [Node("Tuple", [star(name("a", DEL), DEL)], Node(DEL))]), (("targets", 0), ("elts", 0))),
            (Node("Delete", [star(name("a", DEL), DEL)]), (("targets", 0),)),
            (Node("Delete", [Node("List", [star(name("a", STORE), STORE)], Node(DEL))]),
            (("targets", 0), ("elts", 0))), (Node("Assign", [star(name("a", STORE), STORE)], name()),
            (("targets", 0),)), (Node("For", star(name("a", STORE), STORE), name(), [Node("Pass")]), ("target",)),
            (Node("ListComp", star(), [Node("comprehension", name("a", STORE), name(), [], 0)]), ("elt",)),
            (Node("FunctionDef", "f", plain_arguments(), [Node("Pass")], [star()]), (("decorator_list", 0),)),
            (Node("ClassDef", "A", [], [Node("keyword", "a", star())], [Node("Pass")]), (("keywords", 0), "value")),
            (Node("Dict", [None], [star()]), (("values", 0),)),
            (Node("Call", name(), [Node("Slice")], []), (("args", 0),)),
            (Node("Compare", name(), [Node("Lt")], [star()]), (("comparators", 0),)),
        )
        self.assert_fine(Node("Tuple", [star()]), Node("List", [star()]), Node("Set", [star()]),
            Node("Call", name(), [star()], []), Node("ClassDef", "A", [star()], [], [Node("Pass")]),
            Node("Subscript", name(), Node("Slice")),
            Node("Subscript", name(), Node("Tuple", [Node("Slice"), star()])),
            Node("JoinedStr", [Node("FormattedValue", name(), -1)]),
            Node("Assign", [Node("Tuple", [star(name("a", STORE), STORE)], Node(STORE))], name()))

    def test_rule_2(self):
        stored = name("a", STORE)
        for word in (STORE, DEL):
            self.assert_blamed(
                (name("a", word), ()), (attribute(name(), word), ()),
                (Node("Subscript", name(), name(), Node(word)), ()), (Node("List", [], Node(word)), ()),
                (Node("Tuple", [], Node(word)), ()), (Node("List", [star(name(), word)]), (("elts", 0),)),
                (Node("Expr", name("a", word)), ("value",)),
                (Node("BinOp", name(), Node("Add"), name("b", word)), ("right",)),
                (attribute(name("a", word)), ("value",)),
                (Node("Assign", [attribute(name("a", word), STORE)], name()), (("targets", 0), "value")),
                (Node("Assign", [Node("Subscript", name(), name("a", word), Node(STORE))], name()),
                (("targets", 0), "slice")), (Node("Assign", [name("a", STORE)], name("a", word)), ("value",)),
                (Node("Delete", [attribute(name("a", word), DEL)]), (("targets", 0), "value")),
                (Node("List", [star(name("a", word))]), (("elts", 0), "value")),
            )
        for word in (LOAD, DEL):
            self.assert_blamed(
                (Node("Assign", [name("a", word)], name()), (("targets", 0),)),
                (Node("Assign", [name("a", STORE), name("b", word)], name()), (("targets", 1),)),
                (Node("AugAssign", name("a", word), Node("Add"), name()), ("target",)),
                (Node("AnnAssign", name("a", word), name(), None, 1), ("target",)),
                (Node("For", name("a", word), name(), [Node("Pass")]), ("target",)),
                (Node("AsyncFor", name("a", word), name(), [Node("Pass")]), ("target",)),
                (Node("With", [Node("withitem", name(), name("a", word))], [Node("Pass")]),
                (("items", 0), "optional_vars")), (Node("NamedExpr", name("a", word), name()), ("target",)),
                (Node("ListComp", name(), [Node("comprehension", name("a", word), name(), [], 0)]),
                (("generators", 0), "target")), (Node("Assign", [Node("Tuple", [name("a", word)], Node(STORE))],
                name()), (("targets", 0), ("elts", 0))),
                (Node("Assign", [Node("List", [stored], Node(word))], name()), (("targets", 0),)),
                (Node("Assign", [Node("List", [star(name("a", STORE), word)], Node(STORE))], name()),
                (("targets", 0), ("elts", 0))), (Node("Assign",
                [Node("List", [star(name("a", word), STORE)], Node(STORE))], name()),
                (("targets", 0), ("elts", 0), "value")),
                (Node("AsyncWith", [Node("withitem", name(), attribute(name(), word))], [Node("Pass")]),
                (("items", 0), "optional_vars")),
            )
        for word in (LOAD, STORE):
            self.assert_blamed((Node("Delete", [name("a", word)]), (("targets", 0),)),
                (Node("Delete", [name("a", DEL), Node("Tuple", [name("a", word)], Node(DEL))]),
                (("targets", 1), ("elts", 0))), (Node("Delete", [Node("List", [], Node(word))]), (("targets", 0),)),
                (Node("Delete", [attribute(name(), word)]), (("targets", 0),)))

    def test_rule_3(self):
        call = lambda: Node("Call", name(), [], [])
        tuple_target = lambda ctx=STORE: Node("Tuple", [name("a", ctx)], Node(ctx))
        for make in (call, const, lambda: Node("Dict"), lambda: minus(name()), lambda: Node("Set", [name()]),
            lambda: Node("JoinedStr"), lambda: Node("Yield"), lambda: Node("NamedExpr", name("a", STORE), name()),
            lambda: Node("Await", name())):
            self.assert_blamed(
                (Node("Assign", [make()], name()), (("targets", 0),)),
                (Node("AugAssign", make(), Node("Add"), name()), ("target",)),
                (Node("AnnAssign", make(), name(), None, 0), ("target",)),
                (Node("For", make(), name(), [Node("Pass")]), ("target",)),
                (Node("AsyncFor", make(), name(), [Node("Pass")]), ("target",)),
                (Node("Delete", [make()]), (("targets", 0),)),
                (Node("With", [Node("withitem", name(), make())], [Node("Pass")]), (("items", 0), "optional_vars")),
                (Node("NamedExpr", make(), name()), ("target",)),
                (Node("SetComp", name(), [Node("comprehension", make(), name(), [], 0)]),
                (("generators", 0), "target")), (Node("Assign", [Node("Tuple", [make()], Node(STORE))], name()),
                (("targets", 0), ("elts", 0))), (Node("Assign", [Node("List", [star(make(), STORE)], Node(STORE))],
                name()), (("targets", 0), ("elts", 0), "value")),
                (Node("Delete", [Node("List", [Node("Tuple", [make()], Node(DEL))], Node(DEL))]),
                (("targets", 0), ("elts", 0), ("elts", 0))),
            )
        self.assert_blamed(
            (Node("AugAssign", tuple_target(), Node("Add"), name()), ("target",)),
            (Node("AnnAssign", tuple_target(), name(), None, 0), ("target",)),
            (Node("AugAssign", Node("List", [], Node(STORE)), Node("Add"), name()), ("target",)),
            (Node("NamedExpr", tuple_target(), name()), ("target",)),
            (Node("NamedExpr", attribute(name(), STORE), name()), ("target",)),
            (Node("NamedExpr", Node("Subscript", name(), name(), Node(STORE)), name()), ("target",)),
            (Node("With", [Node("withitem", name(), star(name("a", STORE), STORE))], [Node("Pass")]),
            (("items", 0), "optional_vars")),
        )
        self.assert_fine(Node("Assign", [tuple_target()], name()), Node("Delete", [tuple_target(DEL)]),
            Node("With", [Node("withitem", name(), tuple_target())], [Node("Pass")]),
            Node("AugAssign", attribute(name(), STORE), Node("Add"), name()),
            Node("AnnAssign", Node("Subscript", name(), name(), Node(STORE)), name(), None, 0))

    def test_rule_4(self):
        field = lambda spec=None: Node("FormattedValue", name(), -1, spec)
        joined = lambda *values: Node("JoinedStr", list(values))
        self.assert_blamed(
            (joined(name()), (("values", 0),)), (joined(const("")), (("values", 0),)),
            (joined(const(1)), (("values", 0),)), (joined(const(None)), (("values", 0),)),
            (joined(const(Octets((97,)))), (("values", 0),)), (joined(const("a"), const("b")), (("values", 1),)),
            (joined(field(), const("a"), const("b"), field()), (("values", 2),)),
            (joined(joined()), (("values", 0),)), (joined(field(joined(const("a"), const("b")))),
            (("values", 0), "format_spec", ("values", 1))),
            (joined(field(joined(field(joined())))), (("values", 0), "format_spec", ("values", 0))),
            (joined(field(joined(const("a"), field(joined(const("b")))))),
            (("values", 0), "format_spec", ("values", 1))),
            (joined(field(joined(name()))), (("values", 0), "format_spec", ("values", 0))),
            (joined(star()), (("values", 0),)), (joined(const("a"), const("")), (("values", 1),)),
            (joined(field(joined(const("")))), (("values", 0), "format_spec", ("values", 0))),
            (joined(const(""), const("a")), (("values", 0),)),
        )
        for sign in "{}'\"\\\n\t":
            self.assert_blamed((joined(field(joined(const("a" + sign + "b")))),
                (("values", 0), "format_spec", ("values", 0))))
            self.assert_fine(joined(const("a" + sign + "b")),
                joined(field(joined(Node("FormattedValue", const("a" + sign), -1)))))
        self.assert_fine(joined(), joined(const("a"), field(), const("b")), joined(field(joined())),
            joined(field(joined(const(" #!:=~"), field(), const("x"), field()))),
            joined(Node("FormattedValue", joined(field(joined(const("b")))), 97)),
            joined(field(joined(Node("FormattedValue", joined(field(joined())), -1)))))

    def test_rule_5_keywords(self):
        stored = lambda word: name(word, STORE)
        one = lambda word: Node("arguments", args=[Node("arg", word)])
        body = [Node("Pass")]
        for word in ("if", "None", "True", "async", "await", "lambda", "yield", "False", "is"):
            self.assert_blamed(
                (name(word), ()), (Node("Attribute", name(), word), ()),
                (Node("Call", name(), [], [Node("keyword", word, name())]), (("keywords", 0),)),
                (Node("FunctionDef", word, plain_arguments(), [Node("Pass")]), ()),
                (Node("AsyncFunctionDef", word, plain_arguments(), [Node("Pass")]), ()),
                (Node("ClassDef", word, [], [], [Node("Pass")]), ()), (Node("Global", [word]), ()),
                (Node("Nonlocal", ["a", word]), ()), (Node("Lambda", one(word), name()), ("args", ("args", 0))),
                (Node("FunctionDef", "f", one(word), [Node("Pass")]), ("args", ("args", 0))),
                (Node("Try", [Node("Pass")], [Node("ExceptHandler", name(), word, [Node("Pass")])]),
                (("handlers", 0),)), (Node("Import", [Node("alias", word)]), (("names", 0),)),
                (Node("Import", [Node("alias", "a." + word)]), (("names", 0),)),
                (Node("Import", [Node("alias", word + ".a", "b")]), (("names", 0),)),
                (Node("Import", [Node("alias", "a"), Node("alias", "a", word)]), (("names", 1),)),
                (Node("ImportFrom", "a." + word, [Node("alias", "a")], 0), ()),
                (Node("ImportFrom", word, [Node("alias", "a")], 1), ()),
                (Node("ImportFrom", "a", [Node("alias", word)], 0), (("names", 0),)),
                (case(Node("MatchAs", None, word)), PATTERN),
                (case(Node("MatchSequence", [Node("MatchStar", word)])), (*PATTERN, ("patterns", 0))),
                (case(Node("MatchMapping", [], [], word)), PATTERN),
                (case(Node("MatchClass", name(), [], [word], [Node("MatchAs")])), PATTERN),
                (class_pattern(name(word)), (*PATTERN, "cls")),
                (value_pattern(Node("Attribute", name(), word)), (*PATTERN, "value")),
                (Node("Assign", [stored(word)], name()), (("targets", 0),)),
                (Node("Delete", [name(word, DEL)]), (("targets", 0),)),
            )
        for word in ("match", "case", "_", "type", "none", "If", "_if"):
            self.assert_fine(name(word), Node("Attribute", name(), word), Node("Global", [word]),
                Node("Import", [Node("alias", word + "." + word, word)]), Node("FunctionDef", word, one(word), body))

    def test_rule_5_imports_and_captures(self):
        alias = lambda *parts: Node("alias", *parts)
        self.assert_blamed(
            (Node("ImportFrom", None, [alias("a")], 0), ()), (Node("Import", [alias("*")]), (("names", 0),)),
            (Node("Import", [alias("a"), alias("*")]), (("names", 1),)),
            (Node("ImportFrom", "a", [alias("*"), alias("b")], 0), (("names", 0),)),
            (Node("ImportFrom", "a", [alias("b"), alias("*")], 0), (("names", 1),)),
            (Node("ImportFrom", "a", [alias("*", "b")], 0), (("names", 0),)),
            (Node("ImportFrom", "a", [alias("b.c")], 0), (("names", 0),)),
            (Node("ImportFrom", None, [alias("a"), alias("b.c", "d")], 1), (("names", 1),)),
            (case(Node("MatchAs", None, "_")), PATTERN), (case(Node("MatchAs", Node("MatchAs"), "_")), PATTERN),
            (case(Node("MatchAs", Node("MatchAs"), None)), PATTERN),
            (case(Node("MatchSequence", [Node("MatchStar", "_")])), (*PATTERN, ("patterns", 0))),
            (case(Node("MatchMapping", [], [], "_")), PATTERN),
            (case(Node("MatchAs", Node("MatchAs", None, "_"), "a")), (*PATTERN, "pattern")),
        )
        self.assert_fine(
            Node("ImportFrom", None, [alias("a")], 1), Node("ImportFrom", "a.b", [alias("*")], 0),
            Node("ImportFrom", None, [alias("*")], 3), Node("Import", [alias("a.b", "c")]), case(Node("MatchAs")),
            case(Node("MatchAs", None, "a")), case(Node("MatchAs", Node("MatchAs"), "a")),
            case(Node("MatchSequence", [Node("MatchStar")])), case(Node("MatchMapping", [], [], "a")),
            case(Node("MatchClass", name(), [Node("MatchAs")], ["_"], [Node("MatchAs")])),
            Node("Import", [alias("a", "_")]),
        )

    def test_rule_6(self):
        body = lambda: [Node("Pass")]
        lt = lambda: Node("Lt")
        handler = lambda: Node("ExceptHandler", name(), None, body())
        arg = lambda annotation=None: Node("arg", "a", annotation)
        self.assert_blamed(
            (Node("BoolOp", Node("And"), [name()]), ()), (Node("BoolOp", Node("Or"), [name()]), ()),
            (case(Node("MatchOr", [Node("MatchAs")])), PATTERN),
            (Node("Compare", name(), [lt()], [name(), name()]), ()),
            (Node("Compare", name(), [lt(), lt()], [name()]), ()), (Node("Dict", [name()], []), ()),
            (Node("Dict", [], [name()]), ()), (Node("Dict", [None, name()], [name()]), ()),
            (case(Node("MatchMapping", [const()], [])), PATTERN),
            (case(Node("MatchMapping", [], [Node("MatchAs")])), PATTERN),
            (case(Node("MatchClass", name(), [], ["a"], [])), PATTERN),
            (case(Node("MatchClass", name(), [Node("MatchAs")], [], [Node("MatchAs")])), PATTERN),
            (Node("Lambda", plain_arguments(kwonlyargs=[arg()]), name()), ("args",)),
            (Node("Lambda", plain_arguments(kw_defaults=[None]), name()), ("args",)),
            (Node("FunctionDef", "f", plain_arguments(kwonlyargs=[arg()], kw_defaults=[None, name()]), body()),
            ("args",)), (Node("FunctionDef", "f", plain_arguments(defaults=[name()]), body()), ("args",)),
            (Node("Lambda", plain_arguments(args=[arg()], posonlyargs=[arg()], defaults=[name(), name(), name()]),
            name()), ("args",)),
            (Node("Lambda", plain_arguments(kwonlyargs=[arg()], kw_defaults=[None], defaults=[name()]), name()),
            ("args",)),
            (Node("AnnAssign", attribute(name(), STORE), name(), None, 1), ()),
            (Node("AnnAssign", Node("Subscript", name(), name(), Node(STORE)), name(), None, 1), ()),
            (Node("Raise", None, name()), ()), (Node("Try", body()), ()),
            (Node("Try", body(), [], body(), body()), ()), (Node("Try", body(), [], body(), []), ()),
            (Node("Try", body(), [Node("ExceptHandler", None, "a", body())]), (("handlers", 0),)),
            (Node("Try", body(), [handler(), Node("ExceptHandler", None, "a", body())]), (("handlers", 1),)),
            (Node("Lambda", plain_arguments(args=[arg(name())]), name()), ("args", ("args", 0))),
            (Node("Lambda", plain_arguments(posonlyargs=[arg(name())]), name()), ("args", ("posonlyargs", 0))),
            (Node("Lambda", plain_arguments(vararg=arg(name())), name()), ("args", "vararg")),
            (Node("Lambda", plain_arguments(kwarg=arg(name())), name()), ("args", "kwarg")),
            (Node("Lambda", plain_arguments(kwonlyargs=[arg(), arg(name())], kw_defaults=[None, None]), name()),
            ("args", ("kwonlyargs", 1))),
        )
        self.assert_fine(
            Node("Try", body(), [], [], body()), Node("Try", body(), [handler()], body(), body()),
            Node("Try", body(), [handler()], body(), []), Node("Raise", name(), name()), Node("Raise"),
            Node("FunctionDef", "f", plain_arguments(args=[arg(name())], defaults=[name()]), body()),
            Node("AnnAssign", name("a", STORE), name(), None, 1),
            Node("AnnAssign", name("a", STORE), name(), None, 0), Node("Dict", [None, name()], [name(), name()]),
            Node("Lambda", plain_arguments(args=[arg()], posonlyargs=[arg()], defaults=[name(), name()]), name()),
            Node("Try", body(), [Node("ExceptHandler", None, None, body())]),
        )

    def test_rule_7(self):
        for value in (
            Octets([97]), Octets(None), Octets((256,)), Octets((-1,)), Octets((True,)), Octets(("a",)), Octets("a"),
            Octets(b"a"), Octets((1.0,)), Octets((None,)), Octets(5), Float(2, 0), Float(0, 1), Float(1, 1025),
            Float(None, 0), Float(True, 0), Float(1.0, 0), Float(-1, 0), Float(2 ** 53 + 1, 0),
            Imaginary(Float(2, 0)), Imaginary(1), Imaginary(None), Imaginary(Imaginary(Float(1, 0))),
            chr(37), "a" + chr(37) + "b", "\r", "\x00", "\u00e9", "\x7f",
        ):
            self.assert_blamed((const(value), ()), (Node("List", [const(value)]), (("elts", 0),)),
                (Node("Return", Node("Tuple", [name(), const(value)])), ("value", ("elts", 1))))
            if not isinstance(value, str):
                self.assert_blamed((value_pattern(const(value)), (*PATTERN, "value")))
        self.assert_blamed((Node("JoinedStr", [const(chr(37))]), (("values", 0),)),
            (value_pattern(const(chr(37))), (*PATTERN, "value")), (key_pattern(const("\r")), (*PATTERN, ("keys", 0))),
            (value_pattern(total(const(), const(Imaginary(Float(2, 0))))), (*PATTERN, "value", "right")),
            (value_pattern(minus(const(Float(2, 0)))), (*PATTERN, "value", "operand")))
        self.assert_fine(*[const(value) for value in (Octets(()), Octets((0, 37, 255)), Float(0, 0), Float(1, 1024),
            Imaginary(Float(1, 1024)), "\t\n ~", "", 0, 10 ** 199, None, True, False, Dots())])

    def test_rule_8(self):
        dotted = lambda word="a": attribute(attribute(name(word)))
        for make in (
            name, lambda: const(None), lambda: const(True), lambda: const(False), lambda: const(Dots()),
            lambda: Node("UnaryOp", Node("UAdd"), const()), lambda: minus(minus(const())), lambda: minus(const("a")),
            lambda: minus(name()), lambda: minus(const(True)), lambda: total(const(), const()),
            lambda: total(const(IMAGINARY), const(IMAGINARY)), lambda: total(const(), minus(const(IMAGINARY))),
            lambda: total(const(), const(IMAGINARY), "Mult"), lambda: total(const("a"), const(IMAGINARY)),
            lambda: total(minus(const(IMAGINARY)), const(IMAGINARY)),
            lambda: total(name(), const(IMAGINARY)),
            lambda: total(total(const(), const(IMAGINARY)), const(IMAGINARY)), lambda: attribute(name("_")),
            lambda: dotted("_"), lambda: attribute(const()), lambda: attribute(Node("Call", name(), [], [])),
            lambda: Node("JoinedStr"), lambda: Node("Tuple"), lambda: attribute(attribute(const("a"))),
            lambda: Node("UnaryOp", Node("Invert"), const()), lambda: total(const(True), const(IMAGINARY)),
            lambda: minus(const(Dots())), lambda: Node("Dict"),
        ):
            self.assert_blamed((value_pattern(make()), (*PATTERN, "value")))
        for make in (
            name, lambda: const(Dots()), lambda: minus(minus(const())), lambda: minus(const(None)),
            lambda: total(const(), const()), lambda: attribute(const()), lambda: Node("JoinedStr"),
            lambda: Node("List"), lambda: total(const(IMAGINARY), const(IMAGINARY)), lambda: name("_"),
            lambda: Node("Subscript", name(), name()),
        ):
            self.assert_blamed((key_pattern(make()), (*PATTERN, ("keys", 0))))
        for make in (lambda: name("_"), lambda: attribute(name("_")), lambda: dotted("_"), const,
            lambda: attribute(const()), lambda: Node("Call", name(), [], []), lambda: const("a"),
            lambda: const(None)):
            self.assert_blamed((class_pattern(make()), (*PATTERN, "cls")))
        capture = Node("MatchStar", "a")
        self.assert_blamed(
            (case(Node("MatchStar", "a")), PATTERN), (case(Node("MatchStar")), PATTERN),
            (case(Node("MatchOr", [Node("MatchAs"), Node("MatchStar")])), (*PATTERN, ("patterns", 1))),
            (case(Node("MatchAs", capture, "b")), (*PATTERN, "pattern")),
            (case(Node("MatchClass", name(), [Node("MatchStar")])), (*PATTERN, ("patterns", 0))),
            (case(Node("MatchMapping", [const()], [Node("MatchStar")])), (*PATTERN, ("patterns", 0))),
            (case(Node("MatchClass", name(), [], ["a"], [Node("MatchStar")])), (*PATTERN, ("kwd_patterns", 0))),
        )

    def test_values_keys_and_classes_that_are_right(self):
        values = (lambda: const(1), lambda: const(Float(1, 0)), lambda: const(IMAGINARY), lambda: const("a"),
            lambda: const(Octets((97,))), lambda: minus(const(1)), lambda: minus(const(IMAGINARY)),
            lambda: total(const(1), const(IMAGINARY)),
            lambda: total(minus(const(Float(1, 0))), const(IMAGINARY), "Sub"), lambda: attribute(name()),
            lambda: attribute(attribute(name("b"))))
        for make in values:
            self.assert_fine(value_pattern(make()), key_pattern(make()))
        for make in (lambda: const(None), lambda: const(True), lambda: const(False), lambda: attribute(name("_")),
            lambda: attribute(attribute(name("_")))):
            self.assert_fine(key_pattern(make()))
        self.assert_fine(class_pattern(name()), class_pattern(attribute(name())),
            class_pattern(attribute(attribute(name()))))

    def test_the_first_one_in_the_order_of_walk(self):
        # The node itself comes ahead of what is in it, a field ahead of the next one.
        self.assert_blamed(
            (Node("BoolOp", Node("And"), [star()]), ()),
            (Node("BinOp", Node("List", [star(star())]), Node("Add"), star()), ("left", ("elts", 0), "value")),
            (Node("Assign", [const()], star()), (("targets", 0),)),
            (Node("Dict", [name("if"), None], [star(), name()]), (("keys", 0),)),
            (Node("Call", name(), [name("if")], [Node("keyword", "if", name())]), (("args", 0),)),
            (Node("Compare", name("if"), [Node("Lt"), Node("Lt")], [name()]), ()),
            (Node("Call", name("if"), [Node("Slice")], []), ("func",)),
            (Node("If", name(), [Node("Raise", None, name())], [Node("Global", ["if"])]), (("body", 0),)),
            (Node("IfExp", name("c"), name("if"), name("is")), ("body",)),
            (Node("Lambda", plain_arguments(args=[Node("arg", "if")], defaults=[name("if"), name()]), name("if")),
            ("args",)), (Node("FunctionDef", "f", plain_arguments(), [Node("Return", star())], [star()], star()),
            (("body", 0), "value")),
        )

    def test_paths_from_the_node_that_is_passed(self):
        module = parse("a = [b, (c, d)]")
        module["body"][0]["value"]["elts"][1]["elts"][0]["id"] = "if"
        path = (("body", 0), "value", ("elts", 1), ("elts", 0))
        for at, node in enumerate((module, module["body"][0], module["body"][0]["value"],
            module["body"][0]["value"]["elts"][1], module["body"][0]["value"]["elts"][1]["elts"][0])):
            self.assertEqual(blamed(node), path[at:])

    def test_nothing_else_is_to_blame(self):
        """Spoil random trees: each has a text that is read as this tree, or one of its nodes is to blame."""
        maker = Maker(8)
        found = {True: 0, False: 0}
        for _ in range(400):
            tree = maker.tree()
            chosen = maker.chance.choice(nodes_in(tree))
            if chosen.kind in ("Name", "Attribute", "Subscript", "List", "Tuple", "Starred"):
                chosen["ctx"] = Node(maker.chance.choice([LOAD, STORE, DEL]))
            elif chosen.kind == "Constant":
                chosen["value"] = maker.chance.choice([None, "a", 1, IMAGINARY, Float(2, 0)])
            elif chosen.kind in ("MatchAs", "MatchStar"):
                chosen["name"] = maker.chance.choice(["_", None, "a", "if"])
            elif chosen.kind in ("Expr", "Return", "Await", "keyword"):
                chosen["value"] = maker.chance.choice([star(), Node("Slice"), name(), Node("Yield")])
            path = blamed(tree)
            found[path is None] += 1
            if path is None:
                self.assert_fine(tree)
        self.assertTrue(found[True] > 50 and found[False] > 50, found)

    def test_arguments_by_name_and_nothing_changed(self):
        tree = parse("a = (b, *c)")
        before = [(node.kind, node.lineno, node.col_offset) for node in nodes_in(tree)]
        self.assertEqual(unparse(node=tree), "a = b, *c")
        self.assertEqual([(node.kind, node.lineno, node.col_offset) for node in nodes_in(tree)], before)


if __name__ == "__main__":
    unittest.main()
