"""Literal values: DOC.md [48]."""

import ast
import random
import unittest

from treequill.errors import BadNode, BadText, NotLiteral
from treequill.literals import literal_eval
from treequill.nodes import Node
from treequill.reading import parse
from treequill.values import Dots, Float, Imaginary, Octets
from treequill.writing import unparse

from helping import NO_NODES, refused, snapshot
from maker import Maker
from table import KINDS, sample
from test_comparing import at
from test_floats import float_from


def same(one, other):
    """Tell whether two values are equal and of the same kinds, those in them too."""
    if type(one) is not type(other):
        return False
    if isinstance(one, dict):
        return same(list(one.items()), list(other.items()))
    if isinstance(one, (list, tuple)):
        return len(one) == len(other) and all(same(*pair) for pair in zip(one, other))
    if isinstance(one, Float):
        return same((one.mantissa, one.exponent), (other.mantissa, other.exponent))
    return one == other


def from_python(value):
    """Return the value that one of Python's literals has here."""
    if isinstance(value, dict):
        return {from_python(key): from_python(held) for key, held in value.items()}
    if isinstance(value, (list, tuple)):
        return type(value)([from_python(item) for item in value])
    if value is ...:
        return Dots()
    if isinstance(value, bytes):
        return Octets(tuple(value))
    if isinstance(value, float):
        made = float_from(abs(value))
        return Float(-made.mantissa, made.exponent) if str(value).startswith("-") else made
    return Imaginary(float_from(value.imag)) if isinstance(value, complex) else value


class LiteralTest(unittest.TestCase):
    def assert_value(self, text, wanted):
        """Ask for the value of a text, of its tree, and of the body of this."""
        tree = parse(text, "eval")
        before = snapshot(tree)
        for thing in (text, tree, tree["body"]):
            found = literal_eval(thing)
            self.assertTrue(same(found, wanted), (text, found, wanted))
        self.assertTrue(same(literal_eval(node_or_text=text), wanted))
        self.assertEqual(snapshot(tree), before)

    def assert_path(self, text, *path):
        """Ask for the path in the body of an Expression to what is no literal."""
        tree = parse(text, "eval")
        before = snapshot(tree)
        for thing, wanted in ((text, ("body", *path)), (tree, ("body", *path)), (tree["body"], path)):
            with self.assertRaises(NotLiteral) as caught:
                literal_eval(thing)
            self.assertEqual(caught.exception.path, wanted, text)
            self.assertIs(type(caught.exception.path), tuple)
        self.assertEqual(snapshot(tree), before)

    def test_constants(self):
        for text, value in (
            ("None", None), ("True", True), ("False", False), ("0", 0), ("12", 12), ("00", 0), ("0x1F", 31),
            ("1_000", 1000), ("9" * 200, 10 ** 200 - 1), ("'a'", "a"), ("''", ""), ("'a' \"b\"", "ab"), ("r'\\n'", "\\n"),
            ("...", Dots()), ("1.5", Float(3, -1)), ("0.0", Float(0, 0)), ("1e400", Float(1, 1024)), (".5e1", Float(5, 0)),
            ("2j", Imaginary(Float(1, 1))), ("0.5J", Imaginary(Float(1, -1))), ("b'a\\x00'", Octets((97, 0))),
            ("b''", Octets(())), ("(1)", 1), ("((None))", None), ("# a\n1 # b\n", 1), ("\n\n1\n\n", 1), ("1  ", 1),
        ):
            self.assert_value(text, value)

    def test_displays(self):
        for text, value in (
            ("()", ()), ("[]", []), ("{}", {}), ("1,", (1,)), ("1, 2", (1, 2)), ("(1, 2)", (1, 2)), ("[1]", [1]),
            ("[[], (), {}]", [[], (), {}]), ("{1: 2}", {1: 2}), ("{'a': [1, (2, 3)], 'b': {}}", {"a": [1, (2, 3)], "b": {}}),
            ("[None, True, 'a', b'b', ..., 1.0, 1j]",
             [None, True, "a", Octets((98,)), Dots(), Float(1, 0), Imaginary(Float(1, 0))]),
            ("(((1,),),)", (((1,),),)), ("[" * 20 + "]" * 20, eval("[" * 20 + "]" * 20)),
        ):
            self.assert_value(text, value)

    def test_signs(self):
        for text, value in (
            ("-1", -1), ("+1", 1), ("-0", 0), ("+0", 0), ("-1.5", Float(-3, -1)), ("+1.5", Float(3, -1)),
            ("-0.0", Float(0, 0)), ("-1e999", Float(-1, 1024)), ("[-1, +2]", [-1, 2]), ("-(1)", -1), ("- 1", -1),
            ("-0x10", -16), ("{-1: -1.0}", {-1: Float(-1, 0)}), ("-" + "9" * 200, 1 - 10 ** 200), ("+1e-5", float_from(1e-5)),
        ):
            self.assert_value(text, value)

    def test_signs_ahead_of_what_may_not_have_one(self):
        for text in ("-True", "+False", "-None", "-'a'", "-b'a'", "-...", "-1j", "+2.5j", "--1", "+-1", "-+1.5", "~1",
            "~True", "not 1", "not True", "-a", "-(1,)", "-[]", "-[a]", "-{}", "~1.5", "- - -1", "-f'a'", "-(1 + 2)"):
            self.assert_path(text)
            self.assert_path(f"[0, {text}]", ("elts", 1))
            self.assert_path(f"{{1: {text}}}", ("values", 0))

    def test_keys(self):
        for text, value in (
            ("{None: 1, True: 2, False: 3, 4: 5, 'a': 6}", {None: 1, True: 2, False: 3, 4: 5, "a": 6}),
            ("{-1: 1, +2: 2, -0: 3}", {-1: 1, 2: 2, 0: 3}), ("{(): 1}", {(): 1}),
            ("{(1, 'a', (None, -2, ())): 1}", {(1, "a", (None, -2, ())): 1}), ("{((((((((1,),),),),),),),): 1}",
            {((((((((1,),),),),),),),): 1}), ("{'b': 1, 'a': 2}", {"b": 1, "a": 2}), ("{(1): 1}", {1: 1}),
            ("{'': 1}", {"": 1}), ("{1: 1, 2: 2, 3: 3}", {1: 1, 2: 2, 3: 3}),
        ):
            self.assert_value(text, value)

    def test_equal_keys(self):
        for text, value in (
            ("{1: 'a', 1: 'b'}", {1: "b"}), ("{True: 'a', 1: 'b'}", {True: "b"}), ("{1: 'a', True: 'b'}", {1: "b"}),
            ("{0: 'a', False: 'b', 2: 'c'}", {0: "b", 2: "c"}), ("{False: 1, -0: 2, +0: 3}", {False: 3}),
            ("{2: 1, 'a': 2, 2: 3}", {2: 3, "a": 2}), ("{(1, 2): 'a', (True, 2): 'b'}", {(1, 2): "b"}),
            ("{(True,): 'a', (1,): 'b'}", {(True,): "b"}), ("{-1: 1, 1: 2, -1: 3}", {-1: 3, 1: 2}),
            ("{'a': 1, 'a': 2, 'a': 3}", {"a": 3}), ("{None: 1, None: 2}", {None: 2}), ("{1: 1, +1: 2}", {1: 2}),
            ("{'1': 1, 1: 2}", {"1": 1, 1: 2}), ("{(): 1, (): 2}", {(): 2}), ("{0x10: 1, 16: 2}", {16: 2}),
        ):
            self.assert_value(text, value)

    def test_keys_that_may_not_be_there(self):
        for key in ("1.5", "-1.5", "1j", "b'a'", "...", "a", "[]", "{}", "{1}", "f'a'", "1 + 2", "-True", "~1", "--1",
            "(1, 1.5)", "(a,)", "(1, [])", "((b'',),)", "(-1.0,)", "(*a,)", "lambda: a", "a.b", "-1j", "not 1", "(1, {})",
            "((-1, (+2, (1j,))),)"):
            self.assert_path(f"{{{key}: 1}}")
            self.assert_path(f"{{1: 2, {key}: a}}")
            self.assert_path(f"[1, {{1: {{{key}: 1}}}}]", ("elts", 1), ("values", 0))
        for text in ("{**a}", "{1: 2, **a}", "{**{}}", "{1: a, **{1: 2}}"):
            self.assert_path(text)
            self.assert_path(f"({text}, 1)", ("elts", 0))

    def test_what_is_no_literal(self):
        for text in ("a", "a.b", "a[b]", "f()", "f'a'", "f'{a}'", "''f''", "{1}", "{1, 2}", "set()", "[a for b in c]",
            "(a for b in c)", "{a: b for c in d}", "{a for b in c}", "lambda: 1", "1 if 2 else 3", "1 + 2", "1 + 2j",
            "1 - 2j", "-1 + 2j", "a or b", "a < b", "not a", "1 ** 2", "(a := 1)", "(yield)", "(yield from a)", "await a",
            "'a' + 'b'", "[1][0]"):
            self.assert_path(text)
            self.assert_path(f"[{text}]", ("elts", 0))
            self.assert_path(f"(1, ({text}, b))", ("elts", 1), ("elts", 0))
            self.assert_path(f"{{1: 2, 3: [{text}]}}", ("values", 1), ("elts", 0))
        self.assert_path("(*a, 1)", ("elts", 0))
        self.assert_path("[1, *a]", ("elts", 1))

    def test_the_first_node_in_the_order_of_walk(self):
        self.assert_path("[1, (2, a), b]", ("elts", 1), ("elts", 1))
        self.assert_path("{1: a, 2: b}", ("values", 0))
        self.assert_path("{1: [{2: {a: 3}}], 4: b}", ("values", 0), ("elts", 0), ("values", 0))
        self.assert_path("[1, [2, {3}], {a: 4}]", ("elts", 1), ("elts", 1))
        self.assert_path("[{1: a}, {b: 1}]", ("elts", 0), ("values", 0))
        self.assert_path("{1: a, b: 2}")
        self.assert_path("[-a, b]", ("elts", 0))
        self.assert_path("[-1, -a, b]", ("elts", 1))
        self.assert_path("[f(a), b]", ("elts", 0))

    def test_nodes_made_by_hand(self):
        for node, wanted in (
            (Node("Constant", Octets([1])), Octets([1])), (Node("Tuple"), ()), (Node("Dict"), {}),
            (Node("Tuple", [Node("Constant", 1)], Node("Store")), (1,)), (Node("List", [], Node("Del")), []),
            (Node("Expression", Node("Constant", Float(2, 2))), Float(2, 2)),
            (Node("UnaryOp", Node("USub"), Node("Constant", Float(0, 5))), Float(0, 5)),
            (Node("UnaryOp", Node("USub"), Node("Constant", Float(6, 1))), Float(-6, 1)),
            (Node("Constant", "\x00\u00e9"), "\x00\u00e9"),
        ):
            self.assertTrue(same(literal_eval(node), wanted), node.kind)
        value = Imaginary("any")
        self.assertIs(literal_eval(Node("Constant", value)), value)
        value = Float(3, 4)
        self.assertIs(literal_eval(Node("UnaryOp", Node("UAdd"), Node("Constant", value))), value)

    def test_other_nodes(self):
        for kind in KINDS:
            if kind not in ("Expression", "Constant", "Tuple", "List", "Dict"):
                with self.assertRaises(NotLiteral) as caught:
                    literal_eval(sample(kind))
                self.assertEqual(caught.exception.path, (), kind)
        for text in ("", "1", "a = 1"):
            with self.assertRaises(NotLiteral) as caught:
                literal_eval(parse(text))
            self.assertEqual(caught.exception.path, ())

    def test_texts_that_are_none(self):
        for text in ("", " 1", "1 2", "[1", "1;", "a = 1", "\n 1", "1)", "pass", "'a", "(1, 2", "{1: }", "{**}", "*1",
            "012", "[1] 2", "return 1", "'\\q'", "1\n2", "\\", "b'a' 'b'", "f'{'"):
            with self.assertRaises(BadText) as caught:
                literal_eval(text)
            wanted = refused(text, "eval")
            self.assertEqual((caught.exception.lineno, caught.exception.col_offset), wanted)
            self.assertIsNotNone(wanted)

    def test_what_is_neither_a_node_nor_a_text(self):
        for thing in [thing for thing in NO_NODES if not isinstance(thing, str)]:
            with self.assertRaises(BadNode):
                literal_eval(thing)

    def test_values_are_new(self):
        tree = parse("[[1], {2: [3]}]", "eval")
        first = literal_eval(tree)
        first[0].append(5)
        first[1].clear()
        first.append(6)
        self.assertEqual(literal_eval(tree), [[1], {2: [3]}])

    def test_random_literals(self):
        chance = random.Random(41)

        def key(room):
            way = chance.randrange(6 if room else 4)
            if way < 4:
                return chance.choice([None, True, False, 0, 1, -1, -7, 10 ** 30, "", "a", "it's\n"])
            return tuple(key(room - 1) for _ in range(chance.randrange(3)))

        def value(room):
            way = chance.randrange(6) if room else 0
            if way == 1:
                return [value(room - 1) for _ in range(chance.randrange(4))]
            if way == 2:
                return tuple(value(room - 1) for _ in range(chance.randrange(4)))
            if way == 3:
                return {key(2): value(room - 1) for _ in range(chance.randrange(4))}
            plain = [None, True, False, ..., 0, 1, -5, 1.5, -2.25, 1e100, 1e-7, 0.1, 2j, b"", b"a\x00'", "", "'\"\\"]
            return chance.choice(plain)

        for _ in range(200):
            made = value(3)
            text = repr(made).replace("Ellipsis", "...")
            self.assert_value(text, from_python(made))

    def test_random_expressions(self):
        """The first node that is none, by the rules, and the value if there is none."""
        for seed in range(8200, 8400):
            maker = Maker(seed)
            node = maker.pick(lambda: maker.make_list("List", 2), lambda: maker.make_dict("Dict", 2),
                lambda: maker.make_tuple("Tuple", 1), maker.constant)()
            try:
                value = literal_eval(node)
            except NotLiteral as error:
                found = at(node, error.path)
                self.assertTrue(found.kind not in ("Constant", "List", "Tuple", "Expression"), seed)
                for short in range(len(error.path)):
                    self.assertIn(at(node, error.path[:short]).kind, ("List", "Tuple", "Dict"))
            else:
                python = ast.literal_eval(unparse(node).replace("\n", " "))
                self.assertTrue(same(value, from_python(python)), unparse(node))


if __name__ == "__main__":
    unittest.main()
