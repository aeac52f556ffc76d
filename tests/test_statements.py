"""Programs, simple and compound statements: DOC.md [23] to [27]."""

import unittest

from treequill.errors import BadMode, BadText, TreeError
from treequill.nodes import Node
from treequill.reading import parse

from helping import refused, short, statements
from test_tokens import TextTest

NO_PARAMETERS = "arguments([], [], None, [], [], None, [])"
SIGNS = {
    "+=": "Add", "-=": "Sub", "*=": "Mult", "/=": "Div", "//=": "FloorDiv", "**=": "Pow", "@=": "MatMult",
    "<<=": "LShift", ">>=": "RShift", "&=": "BitAnd", "|=": "BitOr", "^=": "BitXor",
}


class StatementsTest(TextTest):
    def assert_statements(self, *rows):
        for text, wanted in rows:
            self.assertEqual(statements(text), wanted, text)


class ModesTest(StatementsTest):
    def test_modes(self):
        self.assertEqual(short(parse("a")), "Module([Expr(Name('a'))])")
        self.assertEqual(short(parse("a", "exec")), "Module([Expr(Name('a'))])")
        self.assertEqual(short(parse("a", "eval")), "Expression(Name('a'))")
        self.assertEqual(short(parse(text="a", mode="eval")), "Expression(Name('a'))")
        self.assertEqual(short(parse("")), "Module([])")

    def test_wrong_modes(self):
        class Odd:
            def __eq__(self, other):
                return True
        for mode in ("single", "", "EVAL", "exec ", None, 0, 1, True, b"eval", ["exec"], ("eval",), {}, Node("Load"),
            Odd(), 1.5, parse):
            for text in ("a", "", "a +", "'", "1__0"):
                with self.assertRaises(BadMode) as caught:
                    parse(text, mode)
                self.assertIs(caught.exception.mode, mode)
        self.assertTrue(issubclass(BadMode, TreeError) and issubclass(BadText, TreeError))

    def test_texts_of_expressions(self):
        for text, wanted in (
            ("a", "Name('a')"), ("a, b", "Tuple([Name('a'), Name('b')])"), ("a,", "Tuple([Name('a')])"),
            ("a\n", "Name('a')"), ("\n\na # b\n\n\n", "Name('a')"), ("(*a,)", "Tuple([Starred(Name('a'))])"),
            ("(a := b)", "NamedExpr(Name('a', Store), Name('b'))"),
            ("lambda: a, b", f"Tuple([Lambda({NO_PARAMETERS}, Name('a')), Name('b')])"), ("(yield)", "Yield(None)"),
            ("a,\\\nb,", "Tuple([Name('a'), Name('b')])"), ("match", "Name('match')"),
            ("f'{a}'", "JoinedStr([FormattedValue(Name('a'), -1, None)])"),
        ):
            self.assertEqual(short(parse(text, "eval")), f"Expression({wanted})", text)

    def test_texts_that_are_refused_in_the_mode_eval(self):
        for text, line, column in (
            ("", 1, 0), ("\n", 2, 0), ("# a", 1, 3), (" a", 1, 1), ("a = b", 1, 2), ("a; b", 1, 1), ("a\nb", 2, 0),
            ("a := b", 1, 2), ("*a, b", 1, 0), ("a, *b", 1, 3), ("yield", 1, 0), ("pass", 1, 0), ("a,,", 1, 2),
            (",", 1, 0), ("a b", 1, 2), ("a\n b", 2, 1),
            ("a +", 1, 3), ("(a", 1, 2), ("a: b", 1, 1), ("return a", 1, 0), ("match a:", 1, 6), ("a += b", 1, 2),
            ("a\\", 1, 2), ("a, 'b", 1, 5), ("a 'b", 1, 2), ("1__0", 1, 0), ("a, yield", 1, 3), ("a;", 1, 1),
        ):
            self.assertEqual(refused(text, "eval"), (line, column), text)

    def test_examples_of_refused_tokens(self):
        self.assert_refused(
            ("a + b = c", 1, 6), ("del (a, *b)", 1, 11), ("for f() in a: b", 1, 8), ("f(a=1, b)", 1, 8),
            ("f(a for b in c, d)", 1, 14), ("f(a, b for c in d)", 1, 7), ("if a:", 1, 5),
        )

    def test_every_tree_is_a_new_one(self):
        one, other = parse("a = b"), parse("a = b")
        self.assertIsNot(one, other)
        self.assertIsNot(one["body"], other["body"])
        self.assertIsNot(one["body"][0], other["body"][0])

    def test_lines_of_several_statements(self):
        self.assert_statements(("a; b", "Expr(Name('a')), Expr(Name('b'))"), ("a;", "Expr(Name('a'))"),
            ("a; b;\nc", "Expr(Name('a')), Expr(Name('b')), Expr(Name('c'))"), ("pass;pass", "Pass, Pass"))
        self.assert_refused((";", 1, 0), ("a;;", 1, 2), ("a; ;", 1, 3), ("a; if b: c", 1, 3), ("a\n;", 2, 0),
            ("a;\n;", 2, 0), ("if a: ;", 1, 6), ("a; def f(): b", 1, 3), ("a; @b", 1, 3),
            ("a; match b:\n case c: d", 1, 9), ("if a: b; if c: d", 1, 9), ("a; with b: c", 1, 3))


class SimpleTest(StatementsTest):
    def test_assignments(self):
        self.assert_statements(
            ("a = b", "Assign([Name('a', Store)], Name('b'))"),
            ("a = b = c", "Assign([Name('a', Store), Name('b', Store)], Name('c'))"),
            ("a = b, *c", "Assign([Name('a', Store)], Tuple([Name('b'), Starred(Name('c'))]))"),
            ("a = yield", "Assign([Name('a', Store)], Yield(None))"),
            ("a = yield from b", "Assign([Name('a', Store)], YieldFrom(Name('b')))"),
            ("a, = b,", "Assign([Tuple([Name('a', Store)], Store)], Tuple([Name('b')]))"),
            ("a = yield b, c", "Assign([Name('a', Store)], Yield(Tuple([Name('b'), Name('c')])))"),
            ("(a) = b", "Assign([Name('a', Store)], Name('b'))"),
            ("() = [] = a", "Assign([Tuple([], Store), List([], Store)], Name('a'))"),
        )
        self.assert_refused(("a =", 1, 3), ("a = = b", 1, 4), ("= a", 1, 0), ("a = b := c", 1, 6),
            ("yield = a", 1, 6), ("a = yield = b", 1, 10), ("*a = b", 1, 3), ("a = *b", 1, 6), ("a = pass", 1, 4),
            ("a = b: c", 1, 5), ("a = b += c", 1, 6), ("a = return", 1, 4))

    def test_augmented_assignments(self):
        for sign, kind in SIGNS.items():
            self.assert_statements((f"a {sign} b", f"AugAssign(Name('a', Store), {kind}, Name('b'))"))
        self.assert_statements(
            ("a.b += c, d", "AugAssign(Attribute(Name('a'), 'b', Store), Add, Tuple([Name('c'), Name('d')]))"),
            ("a[b] += yield c", "AugAssign(Subscript(Name('a'), Name('b'), Store), Add, Yield(Name('c')))"),
            ("(a) += b", "AugAssign(Name('a', Store), Add, Name('b'))"),
            ("((a.b)) -= *c, d",
            "AugAssign(Attribute(Name('a'), 'b', Store), Sub, Tuple([Starred(Name('c')), Name('d')]))"),
        )
        self.assert_refused(("a, b += c", 1, 5), ("(a, b) += c", 1, 7), ("[a] += b", 1, 4), ("f() += a", 1, 4),
            ("a += b += c", 1, 7), ("a += b = c", 1, 7), ("() += a", 1, 3), ("*a += b", 1, 3), ("a += b: c", 1, 6),
            ("yield += a", 1, 6), ("a += *b", 1, 7), ("a +=", 1, 4))

    def test_annotated_assignments(self):
        self.assert_statements(
            ("a: b", "AnnAssign(Name('a', Store), Name('b'), None, 1)"),
            ("a: b = c", "AnnAssign(Name('a', Store), Name('b'), Name('c'), 1)"),
            ("(a): b", "AnnAssign(Name('a', Store), Name('b'), None, 0)"),
            ("((a)): b", "AnnAssign(Name('a', Store), Name('b'), None, 0)"),
            ("a.b: c", "AnnAssign(Attribute(Name('a'), 'b', Store), Name('c'), None, 0)"),
            ("a[b]: c = yield", "AnnAssign(Subscript(Name('a'), Name('b'), Store), Name('c'), Yield(None), 0)"),
            ("(a.b): c", "AnnAssign(Attribute(Name('a'), 'b', Store), Name('c'), None, 0)"),
            ("a: b = c, *d", "AnnAssign(Name('a', Store), Name('b'), Tuple([Name('c'), Starred(Name('d'))]), 1)"),
            ("a: lambda: b", f"AnnAssign(Name('a', Store), Lambda({NO_PARAMETERS}, Name('b')), None, 1)"),
            ("a: b if c else d", "AnnAssign(Name('a', Store), IfExp(Name('c'), Name('b'), Name('d')), None, 1)"),
        )
        self.assert_refused(("a, b: c", 1, 4), ("(a, b): c", 1, 6), ("[a]: b", 1, 3), ("f(): a", 1, 3),
            ("a: b = c = d", 1, 9), ("a: *b", 1, 3), ("a: b, c", 1, 4), ("a: yield", 1, 3), ("a: b += c", 1, 5),
            ("*a: b", 1, 2), ("yield a: b", 1, 7), ("a: b: c", 1, 4), ("a:", 1, 2), ("a: b := c", 1, 5),
            ("'a': b", 1, 3), ("a: b =", 1, 6))

    def test_expressions(self):
        self.assert_statements(("a, *b", "Expr(Tuple([Name('a'), Starred(Name('b'))]))"),
            ("yield", "Expr(Yield(None))"), ("yield a, *b", "Expr(Yield(Tuple([Name('a'), Starred(Name('b'))])))"),
            ("await a", "Expr(Await(Name('a')))"), ("(a := b)", "Expr(NamedExpr(Name('a', Store), Name('b')))"))
        self.assert_refused(("a b", 1, 2), ("yield a b", 1, 8), ("yield *a", 1, 8), ("yield from", 1, 10),
            ("yield from a, b", 1, 12), ("yield yield a", 1, 6), ("else", 1, 0), ("elif a: b", 1, 0), ("as", 1, 0),
            ("in a", 1, 0), ("except: a", 1, 0), ("finally: a", 1, 0))

    def test_return_raise_and_assert(self):
        self.assert_statements(
            ("return", "Return(None)"), ("return a", "Return(Name('a'))"),
            ("return a, *b", "Return(Tuple([Name('a'), Starred(Name('b'))]))"),
            ("return (yield)", "Return(Yield(None))"), ("raise", "Raise(None, None)"),
            ("raise a", "Raise(Name('a'), None)"), ("raise a from b", "Raise(Name('a'), Name('b'))"),
            ("assert a", "Assert(Name('a'), None)"), ("assert a, b", "Assert(Name('a'), Name('b'))"),
        )
        self.assert_refused(("return yield", 1, 7), ("return *a", 1, 9), ("return a b", 1, 9), ("return = a", 1, 7),
            ("raise a, b", 1, 7), ("raise from a", 1, 6), ("raise a from", 1, 12), ("raise *a", 1, 6),
            ("assert", 1, 6), ("assert a,", 1, 9), ("assert a, b, c", 1, 11), ("assert *a, b", 1, 7),
            ("raise a from b from c", 1, 15), ("raise yield", 1, 6), ("return return", 1, 7))

    def test_del(self):
        self.assert_statements(("del a", "Delete([Name('a', Del)])"),
            ("del a, b.c,", "Delete([Name('a', Del), Attribute(Name('b'), 'c', Del)])"),
            ("del (a, [b])", "Delete([Tuple([Name('a', Del), List([Name('b', Del)], Del)], Del)])"),
            ("del ()", "Delete([Tuple([], Del)])"), ("del (a), a[*b]",
            "Delete([Name('a', Del), Subscript(Name('a'), Tuple([Starred(Name('b'))]), Del)])"),
            ("del (a, *b).c", "Delete([Attribute(Tuple([Name('a'), Starred(Name('b'))]), 'c', Del)])"))
        self.assert_refused(("del", 1, 3), ("del *a", 1, 4), ("del a, *b", 1, 7), ("del [*a]", 1, 8),
            ("del (a, (b, *c))", 1, 16), ("del a b", 1, 6), ("del a + b", 1, 6), ("del a,, b", 1, 6),
            ("del f()", 1, 7), ("del -a", 1, 4), ("del a = b", 1, 6), ("del a if b else c", 1, 6),
            ("del (a, b + c), d", 1, 14), ("del await a", 1, 4))

    def test_global_and_nonlocal(self):
        self.assert_statements(("global a", "Global(['a'])"), ("nonlocal a, b", "Nonlocal(['a', 'b'])"),
            ("global match, _", "Global(['match', '_'])"))
        self.assert_refused(("global", 1, 6), ("global a,", 1, 9), ("nonlocal a.b", 1, 10), ("global a b", 1, 9),
            ("global (a)", 1, 7), ("nonlocal", 1, 8), ("global a = b", 1, 9), ("nonlocal *a", 1, 9))

    def test_imports(self):
        self.assert_statements(
            ("import a", "Import([alias('a', None)])"),
            ("import a.b.c as d, e", "Import([alias('a.b.c', 'd'), alias('e', None)])"),
            ("import a . b", "Import([alias('a.b', None)])"),
            ("from a import b", "ImportFrom('a', [alias('b', None)], 0)"),
            ("from a.b import c as d, e", "ImportFrom('a.b', [alias('c', 'd'), alias('e', None)], 0)"),
            ("from . import a", "ImportFrom(None, [alias('a', None)], 1)"),
            ("from .. import a", "ImportFrom(None, [alias('a', None)], 2)"),
            ("from ... import a", "ImportFrom(None, [alias('a', None)], 3)"),
            ("from ....a import b", "ImportFrom('a', [alias('b', None)], 4)"),
            ("from . . ...a.b import c", "ImportFrom('a.b', [alias('c', None)], 5)"),
            ("from .import a", "ImportFrom(None, [alias('a', None)], 1)"),
            ("from a import *", "ImportFrom('a', [alias('*', None)], 0)"),
            ("from a import (b)", "ImportFrom('a', [alias('b', None)], 0)"),
            ("from a import (b as c,\n d,)", "ImportFrom('a', [alias('b', 'c'), alias('d', None)], 0)"),
            ("from match import case", "ImportFrom('match', [alias('case', None)], 0)"),
        )
        self.assert_refused(
            ("import", 1, 6), ("import a,", 1, 9), ("import *", 1, 7), ("import .a", 1, 7), ("import a.", 1, 9),
            ("import a as b.c", 1, 13), ("import (a)", 1, 7), ("import a as", 1, 11), ("import a...b", 1, 8),
            ("from import a", 1, 5), ("from a import", 1, 13), ("from a import b,", 1, 16),
            ("from a import ()", 1, 15), ("from a import (b", 1, 16), ("from a import (b,,)", 1, 17),
            ("from a import *, b", 1, 15), ("from a import b, *", 1, 17), ("from a import (*)", 1, 15),
            ("from a import b.c", 1, 15), ("from a import * as b", 1, 16), ("from . a", 1, 8),
            ("from .a.. import b", 1, 8), ("from a b", 1, 7), ("from .5 import a", 1, 5), ("import a b", 1, 9),
            ("from a import (b) as c", 1, 18), ("from a import (b), c", 1, 17), ("import a from b", 1, 9),
        )

    def test_words(self):
        self.assert_statements(("pass", "Pass"), ("break", "Break"), ("continue", "Continue"))
        self.assert_refused(("pass a", 1, 5), ("break 1", 1, 6), ("continue()", 1, 8), ("pass = a", 1, 5),
            ("pass, a", 1, 4))


class CompoundTest(StatementsTest):
    def test_if(self):
        self.assert_statements(
            ("if a: b", "If(Name('a'), [Expr(Name('b'))], [])"),
            ("if a: b; c\nelse: d", "If(Name('a'), [Expr(Name('b')), Expr(Name('c'))], [Expr(Name('d'))])"),
            ("if a:\n b\nelif c:\n d\nelif e: f\nelse:\n g",
            "If(Name('a'), [Expr(Name('b'))], [If(Name('c'), [Expr(Name('d'))], [If(Name('e'), [Expr(Name('f'))], [Expr(Name('g'))])])])"),
            ("if a: b\nelse:\n if c: d", "If(Name('a'), [Expr(Name('b'))], [If(Name('c'), [Expr(Name('d'))], [])])"),
            ("if a := b: c", "If(NamedExpr(Name('a', Store), Name('b')), [Expr(Name('c'))], [])"),
            ("if a: b;\nc", "If(Name('a'), [Expr(Name('b'))], []), Expr(Name('c'))"),
        )
        self.assert_refused(("if a", 1, 4), ("if a:", 1, 5), ("if a: b else: c", 1, 8), ("if a: if b: c", 1, 6),
            ("if a:\nelse: b", 2, 0), ("if a: b\nelse: c\nelse: d", 3, 0), ("if a: b\nelse: c\nelif d: e", 3, 0),
            ("if *a: b", 1, 3), ("if a, b: c", 1, 4), ("if: a", 1, 2), ("if a: b\n\nc\nelse: d", 4, 0),
            ("if a = b: c", 1, 5), ("if yield: a", 1, 3), ("if a\n: b", 1, 4), ("if a: b\n else: c", 2, 1),
            ("if a: @b", 1, 6))

    def test_while_and_for(self):
        self.assert_statements(
            ("while a: b", "While(Name('a'), [Expr(Name('b'))], [])"),
            ("while a:\n b\nelse: c", "While(Name('a'), [Expr(Name('b'))], [Expr(Name('c'))])"),
            ("for a in b: c", "For(Name('a', Store), Name('b'), [Expr(Name('c'))], [])"),
            ("for a, b in c, *d:\n e\nelse:\n f",
            "For(Tuple([Name('a', Store), Name('b', Store)], Store), Tuple([Name('c'), Starred(Name('d'))]), [Expr(Name('e'))], [Expr(Name('f'))])"),
            ("for a, in b: c", "For(Tuple([Name('a', Store)], Store), Name('b'), [Expr(Name('c'))], [])"),
            ("async for a in b: c\nelse: d",
            "AsyncFor(Name('a', Store), Name('b'), [Expr(Name('c'))], [Expr(Name('d'))])"),
            ("for a.b[c] in d: e",
            "For(Subscript(Attribute(Name('a'), 'b'), Name('c'), Store), Name('d'), [Expr(Name('e'))], [])"),
            ("for (a, b) in c: d",
            "For(Tuple([Name('a', Store), Name('b', Store)], Store), Name('c'), [Expr(Name('d'))], [])"),
            ("for a in b if c else d: e",
            "For(Name('a', Store), IfExp(Name('c'), Name('b'), Name('d')), [Expr(Name('e'))], [])"),
            ("for a in lambda: b: c",
            f"For(Name('a', Store), Lambda({NO_PARAMETERS}, Name('b')), [Expr(Name('c'))], [])"),
        )
        self.assert_refused(("for a in b", 1, 10), ("for a: b", 1, 5), ("for a in *b: c", 1, 11),
            ("for in a: b", 1, 4), ("for a in yield: b", 1, 9), ("for a in: b", 1, 8), ("while a, b: c", 1, 7),
            ("while: a", 1, 5), ("for a in b: c\nelif d: e", 2, 0), ("for a,, b in c: d", 1, 6),
            ("while a: b\nelse: c\nelse: d", 3, 0), ("for a not in b: c", 1, 6), ("async while a: b", 1, 6),
            ("async a", 1, 6), ("async", 1, 5), ("for a in b := c: d", 1, 11), ("async\nfor a in b: c", 1, 5))

    def test_try(self):
        self.assert_statements(
            ("try: a\nexcept: b", "Try([Expr(Name('a'))], [ExceptHandler(None, None, [Expr(Name('b'))])], [], [])"),
            ("try: a\nfinally: b", "Try([Expr(Name('a'))], [], [], [Expr(Name('b'))])"),
            ("try:\n a\nexcept b as c:\n d\nexcept (e, f):\n g\nelse:\n h\nfinally:\n i",
            "Try([Expr(Name('a'))], [ExceptHandler(Name('b'), 'c', [Expr(Name('d'))]), ExceptHandler(Tuple([Name('e'), Name('f')]), None, [Expr(Name('g'))])], [Expr(Name('h'))], [Expr(Name('i'))])"),
            ("try: a\nexcept: b\nexcept c: d",
            "Try([Expr(Name('a'))], [ExceptHandler(None, None, [Expr(Name('b'))]), ExceptHandler(Name('c'), None, [Expr(Name('d'))])], [], [])"),
            ("try: a\nexcept b: c\nfinally: d",
            "Try([Expr(Name('a'))], [ExceptHandler(Name('b'), None, [Expr(Name('c'))])], [], [Expr(Name('d'))])"),
        )
        self.assert_refused(("try: a", 1, 6), ("try: a\n", 2, 0), ("try: a\nb", 2, 0), ("try: a\nelse: b", 2, 0),
            ("try: a\nfinally: b\nexcept: c", 3, 0), ("try: a\nfinally: b\nelse: c", 3, 0),
            ("try: a\nexcept as b: c", 2, 7), ("try: a\nexcept b, c: d", 2, 8), ("try: a\nexcept* b: c", 2, 6),
            ("try: a\nexcept b as c.d: e", 2, 13), ("try: a\nexcept b as (c): d", 2, 12), ("try a: b", 1, 4),
            ("try: a\nexcept: b\nelse: c\nexcept: d", 4, 0), ("try: a\nexcept b := c: d", 2, 9),
            ("if a:\n try: b\nc", 3, 0), ("try: a\nexcept *b: c", 2, 7), ("try: a\nexcept b as: c", 2, 11))

    def test_functions(self):
        self.assert_statements(
            ("def f(): a", f"FunctionDef('f', {NO_PARAMETERS}, [Expr(Name('a'))], [], None)"),
            ("def f(a) -> b: c",
            "FunctionDef('f', arguments([], [arg('a', None)], None, [], [], None, []), [Expr(Name('c'))], [], Name('b'))"),
            ("async def f(): a", f"AsyncFunctionDef('f', {NO_PARAMETERS}, [Expr(Name('a'))], [], None)"),
            ("@a\n@b.c(d)\n\ndef f(): e",
            f"FunctionDef('f', {NO_PARAMETERS}, [Expr(Name('e'))], [Name('a'), Call(Attribute(Name('b'), 'c'), [Name('d')], [])], None)"),
            ("@a := b\nasync def f(): c",
            f"AsyncFunctionDef('f', {NO_PARAMETERS}, [Expr(Name('c'))], [NamedExpr(Name('a', Store), Name('b'))], None)"),
            ("def match(): a", f"FunctionDef('match', {NO_PARAMETERS}, [Expr(Name('a'))], [], None)"),
            ("def f():\n def g():\n  return\n return",
            f"FunctionDef('f', {NO_PARAMETERS}, [FunctionDef('g', {NO_PARAMETERS}, [Return(None)], [], None), Return(None)], [], None)"),
        )
        self.assert_refused(("def f: a", 1, 5), ("def (): a", 1, 4), ("def f() a", 1, 8), ("def f()-> : a", 1, 10),
            ("def f(): ", 1, 9), ("@a", 1, 2), ("@a\n", 2, 0), ("@a\nb", 2, 0), ("@a\n\nfor b in c: d", 3, 0),
            ("@a\nasync for b in c: d", 2, 6), ("@a def f(): b", 1, 3), ("@\ndef f(): a", 1, 1),
            ("@a, b\ndef f(): c", 1, 2), ("@*a\ndef f(): b", 1, 1), ("async def f: a", 1, 11), ("def f.g(): a", 1, 5),
            ("def f() -> a, b: c", 1, 12), ("@a\n @b", 2, 1), ("@a\n\n\n", 4, 0), ("@a;\ndef f(): b", 1, 2),
            ("@a\nasync with b: c", 2, 6), ("def f() -> *a: b", 1, 11))

    def test_classes(self):
        self.assert_statements(
            ("class A: b", "ClassDef('A', [], [], [Expr(Name('b'))], [])"),
            ("class A(): b", "ClassDef('A', [], [], [Expr(Name('b'))], [])"),
            ("@a\nclass A(B, *c, d=e, **f): g",
            "ClassDef('A', [Name('B'), Starred(Name('c'))], [keyword('d', Name('e')), keyword(None, Name('f'))], [Expr(Name('g'))], [Name('a')])"),
            ("class A((b for c in d)): e",
            "ClassDef('A', [GeneratorExp(Name('b'), [comprehension(Name('c', Store), Name('d'), [], 0)])], [], [Expr(Name('e'))], [])"),
            ("class A(b := c,): d",
            "ClassDef('A', [NamedExpr(Name('b', Store), Name('c'))], [], [Expr(Name('d'))], [])"),
        )
        self.assert_refused(("class A(b for c in d): e", 1, 10), ("class A(b async for c in d): e", 1, 10),
            ("class: a", 1, 5), ("class A.b: c", 1, 7), ("class A(b=1, c): d", 1, 14), ("class A(,): b", 1, 8),
            ("class A() -> b: c", 1, 10), ("class A\n: b", 1, 7), ("class A(**b, *c): d", 1, 13),
            ("class 'A': b", 1, 6))

    def test_with(self):
        def items(text):
            return short(parse(text)["body"][0]["items"])
        for text, wanted in (
            ("with a: b", "[withitem(Name('a'), None)]"),
            ("with a as b, c: d", "[withitem(Name('a'), Name('b', Store)), withitem(Name('c'), None)]"),
            ("with (a, b): c", "[withitem(Name('a'), None), withitem(Name('b'), None)]"),
            ("with (a as b, c,): d", "[withitem(Name('a'), Name('b', Store)), withitem(Name('c'), None)]"),
            ("with (a, b) as c: d", "[withitem(Tuple([Name('a'), Name('b')]), Name('c', Store))]"),
            ("with (a := b, c): d", "[withitem(Tuple([NamedExpr(Name('a', Store), Name('b')), Name('c')]), None)]"),
            ("with (*a, b): c", "[withitem(Tuple([Starred(Name('a')), Name('b')]), None)]"),
            ("with (a): b", "[withitem(Name('a'), None)]"), ("with (a,): b", "[withitem(Name('a'), None)]"),
            ("with ((a, b)): c", "[withitem(Tuple([Name('a'), Name('b')]), None)]"),
            ("with (a), b: c", "[withitem(Name('a'), None), withitem(Name('b'), None)]"),
            ("with (a, b), c: d", "[withitem(Tuple([Name('a'), Name('b')]), None), withitem(Name('c'), None)]"),
            ("with (a).b as c: d", "[withitem(Attribute(Name('a'), 'b'), Name('c', Store))]"),
            ("with (a, b)[c]: d", "[withitem(Subscript(Tuple([Name('a'), Name('b')]), Name('c')), None)]"),
            ("with (yield): a", "[withitem(Yield(None), None)]"), ("with (): a", "[withitem(Tuple([]), None)]"),
            ("with (a for b in c): d",
            "[withitem(GeneratorExp(Name('a'), [comprehension(Name('b', Store), Name('c'), [], 0)]), None)]"),
            ("with (a as b): c", "[withitem(Name('a'), Name('b', Store))]"),
            ("with a as (b, *c): d",
            "[withitem(Name('a'), Tuple([Name('b', Store), Starred(Name('c', Store), Store)], Store))]"),
            ("with (a) + b: c", "[withitem(BinOp(Name('a'), Add, Name('b')), None)]"),
            ("with (a as b.c, d as [e]): f",
            "[withitem(Name('a'), Attribute(Name('b'), 'c', Store)), withitem(Name('d'), List([Name('e', Store)], Store))]"),
            ("with a as b[c].d: e", "[withitem(Name('a'), Attribute(Subscript(Name('b'), Name('c')), 'd', Store))]"),
            ("with (a\n, b): c", "[withitem(Name('a'), None), withitem(Name('b'), None)]"),
            ("with ((a), (b)): c", "[withitem(Name('a'), None), withitem(Name('b'), None)]"),
            ("with (a) as b, (c) as d: e",
            "[withitem(Name('a'), Name('b', Store)), withitem(Name('c'), Name('d', Store))]"),
            ("with lambda: a: b", f"[withitem(Lambda({NO_PARAMETERS}, Name('a')), None)]"),
            ("with (a, b) if c else d: e",
            "[withitem(IfExp(Name('c'), Tuple([Name('a'), Name('b')]), Name('d')), None)]"),
        ):
            self.assertEqual(items(text), wanted, text)
            self.assertEqual(items("async " + text), wanted, text)
        self.assert_statements(("with a: b; c",
            "With([withitem(Name('a'), None)], [Expr(Name('b')), Expr(Name('c'))])"),
            ("async with a:\n b", "AsyncWith([withitem(Name('a'), None)], [Expr(Name('b'))])"))

    def test_with_that_is_refused(self):
        self.assert_refused(
            ("with (a as b), c:", 1, 13), ("with (a := b as c):", 1, 13), ("with a as f():", 1, 13),
            ("with a,: b", 1, 7), ("with: a", 1, 4), ("with a as b as c: d", 1, 12), ("with (a as b) as c: d", 1, 14),
            ("with (a as b).c: d", 1, 13), ("with *a, b: c", 1, 5), ("with (*a as b): c", 1, 9),
            ("with (a, b as c, d), e: f", 1, 19), ("with (a as b, c := d): e", 1, 16),
            ("with (a := b, c as d): e", 1, 16), ("with (a as b, *c): d", 1, 14), ("with a as b + c: d", 1, 12),
            ("with (a as f()): b", 1, 14), ("with (a, b", 1, 10), ("with (a as b", 1, 12), ("with a b: c", 1, 7),
            ("with a as: b", 1, 9), ("with yield: a", 1, 5), ("with a := b: c", 1, 7), ("with (,): a", 1, 6),
            ("with (a,,): b", 1, 8), ("with (a as b,,): c", 1, 13), ("with (): a b", 1, 11), ("with (a, b) c", 1, 12),
            ("with (a as b) c", 1, 14), ("with (a)", 1, 8), ("with (a as b): ", 1, 15),
            ("with (a b", 1, 8), ("with ((a as b)): c", 1, 9), ("with (a as b) + c: d", 1, 14),
            ("with (yield as a): b", 1, 12), ("with (a, (b as c)): d", 1, 12), ("with (a as b or c): d", 1, 13),
            ("with a, (b as c): d", 1, 11), ("with (a as 'b\\q'): c", 1, 13), ("with (a, 'b\\q'): c", 1, 11),
            ("with (a as b, 'c", 1, 16),
        )

    def test_match(self):
        self.assert_statements(
            ("match a:\n case b: c", "Match(Name('a'), [match_case(MatchAs(None, 'b'), None, [Expr(Name('c'))])])"),
            ("match a, *b:\n case c if d := e:\n  f\n case _: g",
            "Match(Tuple([Name('a'), Starred(Name('b'))]), [match_case(MatchAs(None, 'c'), NamedExpr(Name('d', Store), Name('e')), [Expr(Name('f'))]), match_case(MatchAs(None, None), None, [Expr(Name('g'))])])"),
            ("match *a,:\n case b: c",
            "Match(Tuple([Starred(Name('a'))]), [match_case(MatchAs(None, 'b'), None, [Expr(Name('c'))])])"),
            ("match (a):\n case b: c", "Match(Name('a'), [match_case(MatchAs(None, 'b'), None, [Expr(Name('c'))])])"),
            ("match [a]:\n case b: c",
            "Match(List([Name('a')]), [match_case(MatchAs(None, 'b'), None, [Expr(Name('c'))])])"),
            ("match -a:\n case b: c",
            "Match(UnaryOp(USub, Name('a')), [match_case(MatchAs(None, 'b'), None, [Expr(Name('c'))])])"),
            ("match match:\n case case: case",
            "Match(Name('match'), [match_case(MatchAs(None, 'case'), None, [Expr(Name('case'))])])"),
            ("match a := b:\n case c: d",
            "Match(NamedExpr(Name('a', Store), Name('b')), [match_case(MatchAs(None, 'c'), None, [Expr(Name('d'))])])"),
            ("match not a:\n case b: c",
            "Match(UnaryOp(Not, Name('a')), [match_case(MatchAs(None, 'b'), None, [Expr(Name('c'))])])"),
            ("match lambda: a:\n case b: c",
            f"Match(Lambda({NO_PARAMETERS}, Name('a')), [match_case(MatchAs(None, 'b'), None, [Expr(Name('c'))])])"),
            ("match ():\n case (): c", "Match(Tuple([]), [match_case(MatchSequence([]), None, [Expr(Name('c'))])])"),
            ("match a,:\n case b: c",
            "Match(Tuple([Name('a')]), [match_case(MatchAs(None, 'b'), None, [Expr(Name('c'))])])"),
            ("match (yield):\n case b: c",
            "Match(Yield(None), [match_case(MatchAs(None, 'b'), None, [Expr(Name('c'))])])"),
        )

    def test_match_and_case_as_names(self):
        self.assert_statements(
            ("match", "Expr(Name('match'))"), ("match = a", "Assign([Name('match', Store)], Name('a'))"),
            ("match(a)", "Expr(Call(Name('match'), [Name('a')], []))"),
            ("match[a]: b", "AnnAssign(Subscript(Name('match'), Name('a'), Store), Name('b'), None, 0)"),
            ("match.a: b", "AnnAssign(Attribute(Name('match'), 'a', Store), Name('b'), None, 0)"),
            ("match: a", "AnnAssign(Name('match', Store), Name('a'), None, 1)"),
            ("match -a", "Expr(BinOp(Name('match'), Sub, Name('a')))"),
            ("match, a = b", "Assign([Tuple([Name('match', Store), Name('a', Store)], Store)], Name('b'))"),
            ("match * a, b", "Expr(Tuple([BinOp(Name('match'), Mult, Name('a')), Name('b')]))"),
            ("match; a", "Expr(Name('match')), Expr(Name('a'))"), ("case", "Expr(Name('case'))"),
            ("case(a)", "Expr(Call(Name('case'), [Name('a')], []))"),
            ("case: a", "AnnAssign(Name('case', Store), Name('a'), None, 1)"),
            ("match += a", "AugAssign(Name('match', Store), Add, Name('a'))"),
            ("match not in a", "Expr(Compare(Name('match'), [NotIn], [Name('a')]))"),
            ("if a: match", "If(Name('a'), [Expr(Name('match'))], [])"),
            ("match(a, b).c = d",
            "Assign([Attribute(Call(Name('match'), [Name('a'), Name('b')], []), 'c', Store)], Name('d'))"),
            ("match if a else b", "Expr(IfExp(Name('a'), Name('match'), Name('b')))"),
            ("match [a:b]", "Expr(Subscript(Name('match'), Slice(Name('a'), Name('b'), None)))"),
        )

    def test_match_that_is_refused(self):
        self.assert_refused(
            ("match a", 1, 7), ("match x: pass", 1, 9), ("match (a): b", 1, 11), ("match a:", 1, 8),
            ("match a:\n", 2, 0), ("match a:\ncase b: c", 2, 0), ("match a:\n b", 2, 1),
            ("match a:\n case b: c\n d", 3, 1), ("match a:\n case b: c\n case", 3, 5), ("match a:\n case", 2, 5),
            ("match a:\n case b", 2, 7), ("match a:\n pass", 2, 1), ("match a:\n case b: c\nelse: d", 3, 0),
            ("match a b", 1, 8), ("match *a:\n case b: c", 1, 8), ("match a:\n\n", 3, 0),
            ("match[a]:\n b", 2, 1), ("match(a):\n  x", 2, 2), ("match[a] b", 1, 9), ("match (a, b", 1, 11),
            ("match (a=1): b", 1, 11), ("match(a for b in c): d", 1, 21), ("match a = b", 1, 8),
            ("match a, b", 1, 10), ("match 'a\\q':", 1, 8), ("if a: match b:\n case c: d", 1, 12),
            ("match a.b.c", 1, 11), ("match not a", 1, 11), ("match -a:\n case", 2, 5), ("match *a, b:", 1, 12),
            ("match -a: b", 1, 10), ("match [a]: b c", 1, 13), ("match [*a]: b: c", 1, 13), ("match: a b", 1, 9),
            ("match (a)(b).c = d = e f", 1, 23), ("match yield:", 1, 6), ("match a:\n case b: c\n  case d: e", 3, 2),
            ("match a:\n Case b: c", 2, 1), ("match a:\n 'case' b", 2, 1), ("async match a:", 1, 6),
            ("match match match:", 1, 12), ("match {}: a", 1, 10), ("match {a", 1, 8),
            ("match a:\n  case b: c\nmatch d", 3, 7), ("match ():\n  a", 2, 2), ("match.a b", 1, 8),
            ("match:\n case a: b", 1, 6), ("match a: # c\n", 2, 0), ("match;:", 1, 6),
        )
        self.assert_statements(("match (a)[b]: c",
            "AnnAssign(Subscript(Call(Name('match'), [Name('a')], []), Name('b'), Store), Name('c'), None, 0)"),
            ("match (a).b: c",
            "AnnAssign(Attribute(Call(Name('match'), [Name('a')], []), 'b', Store), Name('c'), None, 0)"))

    def test_blocks(self):
        self.assert_statements(("if a:\n if b:\n  c\n d\ne",
            "If(Name('a'), [If(Name('b'), [Expr(Name('c'))], []), Expr(Name('d'))], []), Expr(Name('e'))"),
            ("if a: b\nif c: d", "If(Name('a'), [Expr(Name('b'))], []), If(Name('c'), [Expr(Name('d'))], [])"))
        deep = "".join(" " * at + "if a:\n" for at in range(12)) + " " * 12 + "b"
        self.assert_read(deep, deep + "\n", "def f():\n return\n\n yield\n",
            "class A:\n def f(self): pass\n\n @a\n def g(self): pass")

    def test_what_a_program_may_be(self):
        self.assert_read("return", "yield", "await a", "break", "continue", "def f(a, a): b",
            "try: a\nexcept: b\nexcept c: d", "global a; a", "nonlocal a", "a: b; a: c", "async for a in b: c",
            "from a import b as b, b as b", "f(a=1, a=2)", "{a: b, a: c}", "lambda a, a: b", "del a; del a",
            "class A(b=1, b=2): c")


if __name__ == "__main__":
    unittest.main()
