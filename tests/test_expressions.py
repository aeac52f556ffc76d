"""Expressions, brackets, arguments, targets, parameters and constants: DOC.md [17] to [22]."""

import unittest

from treequill.reading import parse

from helping import expression, nodes_in, refused, short, statements
from test_tokens import TextTest

BINARY = {
    "|": ("BitOr", 8), "^": ("BitXor", 9), "&": ("BitAnd", 10), "<<": ("LShift", 11), ">>": ("RShift", 11),
    "+": ("Add", 12),
    "-": ("Sub", 12), "*": ("Mult", 13), "@": ("MatMult", 13), "/": ("Div", 13), "//": ("FloorDiv", 13),
    "**": ("Pow", 15),
}
COMPARISONS = {
    "==": "Eq", "!=": "NotEq", "<": "Lt", "<=": "LtE", ">": "Gt", ">=": "GtE", "in": "In", "not in": "NotIn",
    "is": "Is",
    "is not": "IsNot",
}


class OperatorsTest(TextTest):
    def test_each_operator_with_two_sides(self):
        for sign, (kind, _) in BINARY.items():
            self.assertEqual(expression(f"a {sign} b"), f"BinOp(Name('a'), {kind}, Name('b'))")

    def test_ranks_and_sides(self):
        for one, (kind, rank) in BINARY.items():
            for other, (other_kind, other_rank) in BINARY.items():
                left = f"BinOp(BinOp(Name('a'), {kind}, Name('b')), {other_kind}, Name('c'))"
                right = f"BinOp(Name('a'), {kind}, BinOp(Name('b'), {other_kind}, Name('c')))"
                wanted = left if rank > other_rank or rank == other_rank and one != "**" else right
                self.assertEqual(expression(f"a {one} b {other} c"), wanted)
                self.assertEqual(expression(f"(a {one} b) {other} c"), left)
                self.assertEqual(expression(f"a {one} (b {other} c)"), right)

    def test_long_rows(self):
        self.assert_expressions(
            ("a - b + c", "BinOp(BinOp(Name('a'), Sub, Name('b')), Add, Name('c'))"),
            ("a ** b ** c", "BinOp(Name('a'), Pow, BinOp(Name('b'), Pow, Name('c')))"),
            ("a | b ^ c & d << e + f * g", "BinOp(Name('a'), BitOr, BinOp(Name('b'), BitXor, BinOp(Name('c'), BitAnd,"
             " BinOp(Name('d'), LShift, BinOp(Name('e'), Add, BinOp(Name('f'), Mult, Name('g')))))))"),
            ("a * b - c << d", "BinOp(BinOp(BinOp(Name('a'), Mult, Name('b')), Sub, Name('c')), LShift, Name('d'))"),
        )

    def test_signs_ahead(self):
        self.assert_expressions(
            ("-a", "UnaryOp(USub, Name('a'))"), ("+a", "UnaryOp(UAdd, Name('a'))"),
            ("~a", "UnaryOp(Invert, Name('a'))"),
            ("-a ** -b", "UnaryOp(USub, BinOp(Name('a'), Pow, UnaryOp(USub, Name('b'))))"),
            ("-+~a", "UnaryOp(USub, UnaryOp(UAdd, UnaryOp(Invert, Name('a'))))"),
            ("-a * b", "BinOp(UnaryOp(USub, Name('a')), Mult, Name('b'))"),
            ("a * -b", "BinOp(Name('a'), Mult, UnaryOp(USub, Name('b')))"),
            ("-a.b", "UnaryOp(USub, Attribute(Name('a'), 'b'))"), ("-1", "UnaryOp(USub, Constant(1))"),
            ("a ** b * c", "BinOp(BinOp(Name('a'), Pow, Name('b')), Mult, Name('c'))"),
            ("a ** -b ** c", "BinOp(Name('a'), Pow, UnaryOp(USub, BinOp(Name('b'), Pow, Name('c'))))"),
            ("await a ** b", "BinOp(Await(Name('a')), Pow, Name('b'))"),
            ("-await a.b()", "UnaryOp(USub, Await(Call(Attribute(Name('a'), 'b'), [], [])))"),
        )
        self.assert_refused(("await -a", 1, 6), ("await await a", 1, 6), ("a + not b", 1, 4), ("- not a", 1, 2),
            ("await not a", 1, 6), ("a ** not b", 1, 5), ("await", 1, 5))

    def test_not_and_or(self):
        self.assert_expressions(
            ("not a", "UnaryOp(Not, Name('a'))"), ("not not a", "UnaryOp(Not, UnaryOp(Not, Name('a')))"),
            ("not a < b", "UnaryOp(Not, Compare(Name('a'), [Lt], [Name('b')]))"),
            ("a and not b", "BoolOp(And, [Name('a'), UnaryOp(Not, Name('b'))])"),
            ("a or b or c", "BoolOp(Or, [Name('a'), Name('b'), Name('c')])"),
            ("(a or b) or c", "BoolOp(Or, [BoolOp(Or, [Name('a'), Name('b')]), Name('c')])"),
            ("a or (b or c)", "BoolOp(Or, [Name('a'), BoolOp(Or, [Name('b'), Name('c')])])"),
            ("a and b and c", "BoolOp(And, [Name('a'), Name('b'), Name('c')])"),
            ("(a and b) and c", "BoolOp(And, [BoolOp(And, [Name('a'), Name('b')]), Name('c')])"),
            ("a or b and c or d", "BoolOp(Or, [Name('a'), BoolOp(And, [Name('b'), Name('c')]), Name('d')])"),
            ("a and b or c", "BoolOp(Or, [BoolOp(And, [Name('a'), Name('b')]), Name('c')])"),
            ("not a or b", "BoolOp(Or, [UnaryOp(Not, Name('a')), Name('b')])"),
        )
        self.assert_refused(("a or", 1, 4), ("or a", 1, 0), ("a and or b", 1, 6), ("a not b", 1, 6),
            ("a or lambda: b", 1, 5), ("not lambda: a", 1, 4))

    def test_comparisons(self):
        for sign, kind in COMPARISONS.items():
            self.assertEqual(expression(f"a {sign} b"), f"Compare(Name('a'), [{kind}], [Name('b')])")
        self.assert_expressions(
            ("a < b is not c not in d", "Compare(Name('a'), [Lt, IsNot, NotIn], [Name('b'), Name('c'), Name('d')])"),
            ("(a < b) < c", "Compare(Compare(Name('a'), [Lt], [Name('b')]), [Lt], [Name('c')])"),
            ("a < (b < c)", "Compare(Name('a'), [Lt], [Compare(Name('b'), [Lt], [Name('c')])])"),
            ("a | b == c", "Compare(BinOp(Name('a'), BitOr, Name('b')), [Eq], [Name('c')])"),
            ("a is (not b)", "Compare(Name('a'), [Is], [UnaryOp(Not, Name('b'))])"),
            ("a is not b", "Compare(Name('a'), [IsNot], [Name('b')])"),
            ("not a in b", "UnaryOp(Not, Compare(Name('a'), [In], [Name('b')]))"),
        )
        self.assert_refused(("a < not b", 1, 4), ("a not not b", 1, 6), ("a is in b", 1, 5), ("a not in", 1, 8),
            ("a == not b", 1, 5), ("a is not not b", 1, 9), ("a in not b", 1, 5))

    def test_choices_and_lambdas(self):
        self.assert_expressions(
            ("a if b else c", "IfExp(Name('b'), Name('a'), Name('c'))"),
            ("a if b else c if d else e", "IfExp(Name('b'), Name('a'), IfExp(Name('d'), Name('c'), Name('e')))"),
            ("(a if b else c) if d else e", "IfExp(Name('d'), IfExp(Name('b'), Name('a'), Name('c')), Name('e'))"),
            ("a or b if c or d else e or f",
            "IfExp(BoolOp(Or, [Name('c'), Name('d')]), BoolOp(Or, [Name('a'), Name('b')]), BoolOp(Or, [Name('e'), Name('f')]))"),
            ("a if b else lambda: c",
            "IfExp(Name('b'), Name('a'), Lambda(arguments([], [], None, [], [], None, []), Name('c')))"),
            ("lambda: a if b else c",
            "Lambda(arguments([], [], None, [], [], None, []), IfExp(Name('b'), Name('a'), Name('c')))"),
            ("lambda: lambda: a",
            "Lambda(arguments([], [], None, [], [], None, []), Lambda(arguments([], [], None, [], [], None, []), Name('a')))"),
            ("lambda a: b, c",
            "Tuple([Lambda(arguments([], [arg('a', None)], None, [], [], None, []), Name('b')), Name('c')])"),
        )
        self.assert_refused(("a if b", 1, 6), ("a if lambda: b else c", 1, 5), ("lambda: a = b", 1, 10),
            ("lambda a", 1, 8), ("a if b if c else d else e", 1, 7),
                            ("lambda (a): b", 1, 7), ("lambda a: *b", 1, 10), ("lambda: yield", 1, 8),
                            ("a if b else", 1, 11), ("lambda: a := b", 1, 10))

    def test_named_expressions(self):
        self.assert_expressions(
            ("(a := b)", "NamedExpr(Name('a', Store), Name('b'))"),
            ("(a := b, c)", "Tuple([NamedExpr(Name('a', Store), Name('b')), Name('c')])"),
            ("[a := b]", "List([NamedExpr(Name('a', Store), Name('b'))])"),
            ("{a := b}", "Set([NamedExpr(Name('a', Store), Name('b'))])"),
            ("f(a := b)", "Call(Name('f'), [NamedExpr(Name('a', Store), Name('b'))], [])"),
            ("a[b := c]", "Subscript(Name('a'), NamedExpr(Name('b', Store), Name('c')))"),
            ("(a := b if c else d)", "NamedExpr(Name('a', Store), IfExp(Name('c'), Name('b'), Name('d')))"),
            ("(a := (b := c))", "NamedExpr(Name('a', Store), NamedExpr(Name('b', Store), Name('c')))"),
            ("{(a := b): c}", "Dict([NamedExpr(Name('a', Store), Name('b'))], [Name('c')])"),
        )
        self.assert_read("if a := b: c", "while a := b: c", "@a := b\ndef f(): c", "[a := b for c in d]",
            "match a := b:\n case c if d := e: f", "a[b := c, d]")
        self.assert_refused(
            ("a := b", 1, 2), ("(a := b := c)", 1, 8), ("(a.b := c)", 1, 5), ("((a) := b)", 1, 5),
            ("x = a := b", 1, 6), ("f(a=b := c)", 1, 6), ("{a: b := c}", 1, 6),
            ("{a := b: c}", 1, 7), ("return a := b", 1, 9), ("del a := b", 1, 6), ("a[b := c:d]", 1, 8),
            ("(1 := a)", 1, 3), ("for a in b := c: d", 1, 11), ("assert a := b", 1, 9),
            ("(*a := b)", 1, 4), ("lambda: (a := b) := c", 1, 17), ("with a := b: c", 1, 7),
            ("def f(a=b := c): d", 1, 10), ("(a := *b)", 1, 6), ("(a := yield)", 1, 6),
            ("[a for b in c := d]", 1, 14),
        )


class BracketsTest(TextTest):
    def test_tuples_and_groups(self):
        self.assert_expressions(
            ("()", "Tuple([])"), ("(a)", "Name('a')"), ("((a))", "Name('a')"), ("(a,)", "Tuple([Name('a')])"),
            ("(a, b)", "Tuple([Name('a'), Name('b')])"), ("(a, b,)", "Tuple([Name('a'), Name('b')])"),
            ("a,", "Tuple([Name('a')])"), ("a, b", "Tuple([Name('a'), Name('b')])"),
            ("*a, b", "Tuple([Starred(Name('a')), Name('b')])"), ("*a,", "Tuple([Starred(Name('a'))])"),
            ("(*a,)", "Tuple([Starred(Name('a'))])"),
            ("(*a, *b)", "Tuple([Starred(Name('a')), Starred(Name('b'))])"), ("(yield)", "Yield(None)"),
            ("(yield a, b)", "Yield(Tuple([Name('a'), Name('b')]))"), ("(yield from a)", "YieldFrom(Name('a'))"),
            ("*a | b, c", "Tuple([Starred(BinOp(Name('a'), BitOr, Name('b'))), Name('c')])"),
            ("(yield *a, b)", "Yield(Tuple([Starred(Name('a')), Name('b')]))"),
            ("((), ())", "Tuple([Tuple([]), Tuple([])])"),
        )
        self.assert_refused(
            ("(*a)", 1, 3), ("*a", 1, 2), ("(,)", 1, 1), ("(a,,)", 1, 3), ("*a + b", 1, 6), ("(*a or b,)", 1, 4),
            ("*a < b,", 1, 3), ("(a, yield)", 1, 4), ("(yield, a)", 1, 6), ("(yield a := b)", 1, 9),
            ("(yield from a, b)", 1, 13),
            ("(a b)", 1, 3), ("(yield from *a)", 1, 12), ("a,,", 1, 2), ("*not a,", 1, 1), ("(**a)", 1, 1),
            ("(a: b)", 1, 2), ("(yield) = a", 1, 8), ("(yield from)", 1, 11), ("(a, *)", 1, 5), ("**a", 1, 0),
        )

    def test_lists_sets_and_dicts(self):
        self.assert_expressions(
            ("[]", "List([])"), ("[a]", "List([Name('a')])"), ("[a,]", "List([Name('a')])"),
            ("[*a, b]", "List([Starred(Name('a')), Name('b')])"), ("[*a]", "List([Starred(Name('a'))])"),
            ("{a}", "Set([Name('a')])"), ("{a, *b,}", "Set([Name('a'), Starred(Name('b'))])"),
            ("{*a}", "Set([Starred(Name('a'))])"), ("{}", "Dict([], [])"),
            ("{a: b}", "Dict([Name('a')], [Name('b')])"),
            ("{a: b, **c, d: e,}", "Dict([Name('a'), None, Name('d')], [Name('b'), Name('c'), Name('e')])"),
            ("{**a}", "Dict([None], [Name('a')])"), ("{**a | b}",
            "Dict([None], [BinOp(Name('a'), BitOr, Name('b'))])"),
            ("{lambda: a: b}", "Dict([Lambda(arguments([], [], None, [], [], None, []), Name('a'))], [Name('b')])"),
            ("{a if b else c: d}", "Dict([IfExp(Name('b'), Name('a'), Name('c'))], [Name('d')])"),
        )
        self.assert_refused(
            ("[,]", 1, 1), ("{,}", 1, 1), ("{a: b, c}", 1, 8), ("{a, b: c}", 1, 5), ("{*a: b}", 1, 3),
            ("{**a: b}", 1, 4), ("{**a or b}", 1, 5), ("{a:}", 1, 3), ("{a: b c}", 1, 6), ("{a: *b}", 1, 4),
            ("{a: b, *c}", 1, 7),
            ("{a, **b}", 1, 4), ("[a: b]", 1, 2), ("{**a, b}", 1, 7), ("{: a}", 1, 1), ("[yield]", 1, 1),
            ("{a: b,, c: d}", 1, 6), ("{a: b: c}", 1, 5),
        )

    def test_comprehensions(self):
        plain = "[comprehension(Name('b', Store), Name('c'), [], 0)]"
        self.assert_expressions(
            ("[a for b in c]", f"ListComp(Name('a'), {plain})"), ("{a for b in c}", f"SetComp(Name('a'), {plain})"),
            ("(a for b in c)", f"GeneratorExp(Name('a'), {plain})"),
            ("{a: d for b in c}", f"DictComp(Name('a'), Name('d'), {plain})"),
            ("[a for b in c if d if e]",
            "ListComp(Name('a'), [comprehension(Name('b', Store), Name('c'), [Name('d'), Name('e')], 0)])"),
            ("[a async for b in c for d in e]",
            "ListComp(Name('a'), [comprehension(Name('b', Store), Name('c'), [], 1), comprehension(Name('d', Store), Name('e'), [], 0)])"),
            ("[a for b in c or d]",
            "ListComp(Name('a'), [comprehension(Name('b', Store), BoolOp(Or, [Name('c'), Name('d')]), [], 0)])"),
            ("[a if b else c for b in c]", f"ListComp(IfExp(Name('b'), Name('a'), Name('c')), {plain})"),
            ("[a for b, in c]",
            "ListComp(Name('a'), [comprehension(Tuple([Name('b', Store)], Store), Name('c'), [], 0)])"),
            ("[(a, b) for b in c]", f"ListComp(Tuple([Name('a'), Name('b')]), {plain})"),
            ("(a := d for b in c)", f"GeneratorExp(NamedExpr(Name('a', Store), Name('d')), {plain})"),
            ("{a: d for b in c for b in c}", f"DictComp(Name('a'), Name('d'), {plain[:-1]}, {plain[1:]})"),
        )
        self.assert_refused(
            ("[*a for b in c]", 1, 4), ("(*a for b in c)", 1, 4), ("{*a for b in c}", 1, 4),
            ("{**a for b in c}", 1, 5), ("[a, b for c in d]", 1, 6), ("[a for b in c, d]", 1, 13),
            ("{a: b, c: d for e in f}", 1, 12), ("(a, b for c in d)", 1, 6),
            ("[a for b in c if d else e]", 1, 19), ("[a for b in lambda: c]", 1, 12),
            ("[a for b in c if lambda: d]", 1, 17), ("[a for b]", 1, 8), ("[a for b in *c]", 1, 12),
            ("[a async b]", 1, 9), ("a for b in c", 1, 2), ("[a for b in c else]", 1, 14),
            ("(yield a for b in c)", 1, 9), ("[a for b in c if]", 1, 16), ("[for a in b]", 1, 1),
            ("[a for b in c := d]", 1, 14), ("[a for b in c if d := e]", 1, 19), ("[a for b not in c]", 1, 9),
            ("[a for b + c in d]", 1, 9), ("{a: b for c in d, e}", 1, 16),
        )

    def test_attributes_calls_and_subscripts(self):
        self.assert_expressions(
            ("a.b.c", "Attribute(Attribute(Name('a'), 'b'), 'c')"),
            ("a().b[c]", "Subscript(Attribute(Call(Name('a'), [], []), 'b'), Name('c'))"),
            ("'a'.b", "Attribute(Constant('a'), 'b')"), ("1 .a", "Attribute(Constant(1), 'a')"),
            ("1.5.a", "Attribute(Constant(Float(3, -1)), 'a')"), ("[].a", "Attribute(List([]), 'a')"),
            ("(a + b).c", "Attribute(BinOp(Name('a'), Add, Name('b')), 'c')"),
            ("....a", "Attribute(Constant(...), 'a')"), ("None.a", "Attribute(Constant(None), 'a')"),
            ("a.match.case", "Attribute(Attribute(Name('a'), 'match'), 'case')"),
        )
        self.assert_refused(("a.1", 1, 1), ("a.(b)", 1, 2), ("a.None", 1, 2), ("a..b", 1, 2), ("a.b.", 1, 4),
            ("-a.-b", 1, 3))


class ArgumentsTest(TextTest):
    def test_arguments(self):
        self.assert_expressions(
            ("f()", "Call(Name('f'), [], [])"), ("f(a, b)", "Call(Name('f'), [Name('a'), Name('b')], [])"),
            ("f(a,)", "Call(Name('f'), [Name('a')], [])"),
            ("f(*a, b, *c)", "Call(Name('f'), [Starred(Name('a')), Name('b'), Starred(Name('c'))], [])"),
            ("f(a=b)", "Call(Name('f'), [], [keyword('a', Name('b'))])"),
            ("f(a, b=c, *d, **e, f=g,)",
            "Call(Name('f'), [Name('a'), Starred(Name('d'))], [keyword('b', Name('c')), keyword(None, Name('e')), keyword('f', Name('g'))])"),
            ("f(**a, **b)", "Call(Name('f'), [], [keyword(None, Name('a')), keyword(None, Name('b'))])"),
            ("f(a for b in c)",
            "Call(Name('f'), [GeneratorExp(Name('a'), [comprehension(Name('b', Store), Name('c'), [], 0)])], [])"),
            ("f((a for b in c), d)",
            "Call(Name('f'), [GeneratorExp(Name('a'), [comprehension(Name('b', Store), Name('c'), [], 0)]), Name('d')], [])"),
            ("f(*a or b)", "Call(Name('f'), [Starred(BoolOp(Or, [Name('a'), Name('b')]))], [])"),
            ("f(**a if b else c)", "Call(Name('f'), [], [keyword(None, IfExp(Name('b'), Name('a'), Name('c')))])"),
            ("f(a=b, a=c)", "Call(Name('f'), [], [keyword('a', Name('b')), keyword('a', Name('c'))])"),
            ("f(a)(b)", "Call(Call(Name('f'), [Name('a')], []), [Name('b')], [])"),
            ("f(a := b for c in d)",
            "Call(Name('f'), [GeneratorExp(NamedExpr(Name('a', Store), Name('b')), [comprehension(Name('c', Store), Name('d'), [], 0)])], [])"),
            ("f(a == b)", "Call(Name('f'), [Compare(Name('a'), [Eq], [Name('b')])], [])"),
        )
        self.assert_refused(
            ("f(a=1, b)", 1, 8), ("f(a for b in c, d)", 1, 14), ("f(a, b for c in d)", 1, 7), ("f(**a, b)", 1, 8),
            ("f(**a, *b)", 1, 7), ("f(a=1, 2)", 1, 7), ("f(a=1, b := 2)", 1, 9), ("f(,)", 1, 2), ("f(a,,)", 1, 4),
            ("f(a.b=1)", 1, 5),
            ("f((a)=1)", 1, 5), ("f(1=a)", 1, 3), ("f(a=b for c in d)", 1, 6), ("f(a, b=c for d in e)", 1, 9),
            ("f(b=c, *a for d in e)", 1, 10), ("f(*a, b for c in d)", 1, 8), ("f(a, *b for c in d)", 1, 8),
            ("f(a, **b for c in d)", 1, 9), ("f(*a for b in c)", 1, 5),
            ("f(**a for b in c)", 1, 6), ("f(a for b in c,)", 1, 14), ("f(a b)", 1, 4), ("f(a=)", 1, 4),
            ("f(*)", 1, 3), ("f(**)", 1, 4), ("f(a=1, *b, c)", 1, 12),
            ("f(yield)", 1, 2), ("f(a=*b)", 1, 4), ("f(*a=b)", 1, 4), ("f(a=1, lambda: b)", 1, 7),
            ("f(a=1, (b))", 1, 7), ("f(True=1)", 1, 6), ("f(*a := b)", 1, 5), ("f(a = b = c)", 1, 8),
            ("f(a=1, b for c in d)", 1, 9), ("f(a:b)", 1, 3),
        )

    def test_subscripts(self):
        self.assert_expressions(
            ("a[b]", "Subscript(Name('a'), Name('b'))"), ("a[b,]", "Subscript(Name('a'), Tuple([Name('b')]))"),
            ("a[b, c]", "Subscript(Name('a'), Tuple([Name('b'), Name('c')]))"),
            ("a[*b]", "Subscript(Name('a'), Tuple([Starred(Name('b'))]))"),
            ("a[*b,]", "Subscript(Name('a'), Tuple([Starred(Name('b'))]))"),
            ("a[*b or c, d]",
            "Subscript(Name('a'), Tuple([Starred(BoolOp(Or, [Name('b'), Name('c')])), Name('d')]))"),
            ("a[:]", "Subscript(Name('a'), Slice(None, None, None))"),
            ("a[::]", "Subscript(Name('a'), Slice(None, None, None))"),
            ("a[b:]", "Subscript(Name('a'), Slice(Name('b'), None, None))"),
            ("a[:b]", "Subscript(Name('a'), Slice(None, Name('b'), None))"),
            ("a[::b]", "Subscript(Name('a'), Slice(None, None, Name('b')))"),
            ("a[b:c:d]", "Subscript(Name('a'), Slice(Name('b'), Name('c'), Name('d')))"),
            ("a[b:c, ::d]",
            "Subscript(Name('a'), Tuple([Slice(Name('b'), Name('c'), None), Slice(None, None, Name('d'))]))"),
            ("a[(b, c)]", "Subscript(Name('a'), Tuple([Name('b'), Name('c')]))"),
            ("a[:,]", "Subscript(Name('a'), Tuple([Slice(None, None, None)]))"),
            ("a[b := c, d]", "Subscript(Name('a'), Tuple([NamedExpr(Name('b', Store), Name('c')), Name('d')]))"),
            ("a[()]", "Subscript(Name('a'), Tuple([]))"),
            ("a[b][c]", "Subscript(Subscript(Name('a'), Name('b')), Name('c'))"),
            ("a[(yield)]", "Subscript(Name('a'), Yield(None))"),
            ("a[lambda: b : c]",
            "Subscript(Name('a'), Slice(Lambda(arguments([], [], None, [], [], None, []), Name('b')), Name('c'), None))"),
        )
        self.assert_refused(
            ("a[]", 1, 2), ("a[,]", 1, 2), ("a[b,,]", 1, 4), ("a[b:c:d:e]", 1, 7), ("a[*b:c]", 1, 4),
            ("a[b:*c]", 1, 4), ("a[b := c:d]", 1, 8), ("a[b:c := d]", 1, 6), ("a[yield]", 1, 2), ("a[**b]", 1, 2),
            ("a[b=c]", 1, 3), ("a[b for c in d]", 1, 4), ("a[b", 1, 3), ("a[*]", 1, 3),
        )


class TargetsTest(TextTest):
    def contexts(self, text):
        """Return the pairs of an expression's source and its context, for all that have one."""
        found = {}
        for node in nodes_in(parse(text)):
            if node.kind in ("Name", "Attribute", "Subscript", "Starred", "List", "Tuple"):
                key = node["id"] if node.kind == "Name" else node["attr"] if node.kind == "Attribute" else node.kind
                found.setdefault(key, node["ctx"].kind)
        return found

    def test_contexts_of_all_parts(self):
        self.assertEqual(
            self.contexts("a, (b.c, [d[e, f], *g]), *h.i = j"),
            {"Tuple": "Store", "a": "Store", "c": "Store", "b": "Load", "List": "Store", "Subscript": "Store",
            "d": "Load", "e": "Load", "f": "Load", "Starred": "Store", "g": "Store",
             "i": "Store", "h": "Load", "j": "Load"},
        )
        self.assertEqual(statements("a[b, c].d = e"),
            "Assign([Attribute(Subscript(Name('a'), Tuple([Name('b'), Name('c')])), 'd', Store)], Name('e'))")
        self.assertEqual(statements("a[[b]] = c"),
            "Assign([Subscript(Name('a'), List([Name('b')]), Store)], Name('c'))")
        self.assertEqual(statements("(a, [b]).c = d"),
            "Assign([Attribute(Tuple([Name('a'), List([Name('b')])]), 'c', Store)], Name('d'))")
        self.assertEqual(statements("*(a, *b), c = d"),
            "Assign([Tuple([Starred(Tuple([Name('a', Store), Starred(Name('b', Store), Store)], Store), Store), Name('c', Store)], Store)], Name('d'))")
        self.assertEqual(statements("del a, (b.c, [d[e]])"),
            "Delete([Name('a', Del), Tuple([Attribute(Name('b'), 'c', Del), List([Subscript(Name('d'), Name('e'), Del)], Del)], Del)])")

    def test_each_place_of_targets(self):
        store = "Tuple([Name('a', Store), Starred(Name('b', Store), Store)], Store)"
        self.assertEqual(statements("a, *b = c"), f"Assign([{store}], Name('c'))")
        self.assertEqual(statements("for a, *b in c: pass"), f"For({store}, Name('c'), [Pass], [])")
        self.assertEqual(statements("with c as (a, *b): pass"), f"With([withitem(Name('c'), {store})], [Pass])")
        self.assertEqual(expression("[c for a, *b in d]"),
            f"ListComp(Name('c'), [comprehension({store}, Name('d'), [], 0)])")
        self.assertEqual(statements("a += b"), "AugAssign(Name('a', Store), Add, Name('b'))")
        self.assertEqual(statements("a: b"), "AnnAssign(Name('a', Store), Name('b'), None, 1)")
        self.assertEqual(expression("(a := b)"), "NamedExpr(Name('a', Store), Name('b'))")

    def test_what_can_be_a_target(self):
        for target in ("a", "a.b", "a[b]", "()", "[]", "(a,)", "(a, b)", "[a, *b]", "(a)", "((a))", "(a.b)",
            "[(a), [b]]", "(*a, *b)", "a().b", "a()[b]", "(*(a, b),)", "1 .a", "'a'.b", "f'{a}'[b]", "(a + b).c",
                       "{}.a", "(*a.b, c)", "(*(a),)", "a[*b]", "[a for a in b].c", "(*[a],)"):
            self.assert_read(f"{target} = x", f"for {target} in x: y", f"[x for {target} in y]",
                f"with x as {target}: y", f"{target}, = x", f"for {target}, in x: y")

    def test_what_cannot_be_a_target(self):
        for text in ("f()", "(a + b)", "1", "'a'", "None", "...", "{a}", "{}", "[a for b in c]", "(a for b in c)",
            "(a, b + c)", "[a, 1]", "(a := b)", "(lambda: a)", "(a if b else c)", "(yield)", "[*f()]", "(a, [b, {}])",
            "f'a'", "(*a, 1)",
                     "(a, (b, f()))", "(await a)", "(*f(), a)", "True"):
            end = len(text)
            self.assert_refused((f"{text} = x", 1, end + 1), (f"for {text} in x: y", 1, end + 5),
                (f"[x for {text} in y]", 1, end + 8), (f"with x as {text}: y", 1, end + 10),
                (f"del {text}", 1, end + 4), (f"{text} += x", 1, end + 1))
            self.assert_refused((f"a = {text} = x", 1, end + 5), (f"{text}: x", 1, end),
                (f"for a, {text} in x: y", 1, end + 8), (f"for {text}, a in b: c", 1, end + 4))
        self.assert_refused(("a + b = c", 1, 6), ("-a = b", 1, 3), ("await a = b", 1, 8),
            ("a if b else c = d", 1, 14), ("lambda: a = b", 1, 10), ("a < b = c", 1, 6), ("not a = b", 1, 6),
            ("a or b = c", 1, 7), ("a, b + c = d", 1, 9), ("*a + b, c = d", 1, 10), ("a ** b = c", 1, 7))
        self.assert_refused(("for -a in b: c", 1, 4), ("for a + b in c: d", 1, 6), ("for await a in b: c", 1, 4),
            ("with a as b + c: d", 1, 12), ("with a as *b: c", 1, 10), ("with a as b, *c: d", 1, 13),
            ("for *a in b: c", 1, 7), ("for a, *b + c in d: e", 1, 10), ("[a for *b in c]", 1, 10))

    def test_examples(self):
        self.assert_refused(("a + b = c", 1, 6), ("for f() in a: b", 1, 8), ("del (a, *b)", 1, 11))


class ParametersTest(TextTest):
    def parameters(self, text):
        """Return the short text of the arguments, the same for a def and a lambda."""
        one = parse(f"lambda {text}: x")["body"][0]["value"]["args"]
        other = parse(f"def f({text}): x")["body"][0]["args"]
        self.assertEqual(short(one), short(other))
        return short(one)

    def assert_parameters(self, text, *parts):
        self.assertEqual(self.parameters(text), "arguments(" + ", ".join(parts) + ")", text)

    def test_parameters(self):
        a, b, c = "arg('a', None)", "arg('b', None)", "arg('c', None)"
        self.assert_parameters("", "[]", "[]", "None", "[]", "[]", "None", "[]")
        self.assert_parameters("a", "[]", f"[{a}]", "None", "[]", "[]", "None", "[]")
        self.assert_parameters("a, b,", "[]", f"[{a}, {b}]", "None", "[]", "[]", "None", "[]")
        self.assert_parameters("a, b=1", "[]", f"[{a}, {b}]", "None", "[]", "[]", "None", "[Constant(1)]")
        self.assert_parameters("a, /, b", f"[{a}]", f"[{b}]", "None", "[]", "[]", "None", "[]")
        self.assert_parameters("a, b, /", f"[{a}, {b}]", "[]", "None", "[]", "[]", "None", "[]")
        self.assert_parameters("a, /,", f"[{a}]", "[]", "None", "[]", "[]", "None", "[]")
        self.assert_parameters("a=1, /, b=2", f"[{a}]", f"[{b}]", "None", "[]", "[]", "None",
            "[Constant(1), Constant(2)]")
        self.assert_parameters("a, /, b=2", f"[{a}]", f"[{b}]", "None", "[]", "[]", "None", "[Constant(2)]")
        self.assert_parameters("*a", "[]", "[]", a, "[]", "[]", "None", "[]")
        self.assert_parameters("*a,", "[]", "[]", a, "[]", "[]", "None", "[]")
        self.assert_parameters("*, a", "[]", "[]", "None", f"[{a}]", "[None]", "None", "[]")
        self.assert_parameters("*, a=1, b, c=2,", "[]", "[]", "None", f"[{a}, {b}, {c}]",
            "[Constant(1), None, Constant(2)]", "None", "[]")
        self.assert_parameters("a, *b, c", "[]", f"[{a}]", b, f"[{c}]", "[None]", "None", "[]")
        self.assert_parameters("a=1, *, b", "[]", f"[{a}]", "None", f"[{b}]", "[None]", "None", "[Constant(1)]")
        self.assert_parameters("**a", "[]", "[]", "None", "[]", "[]", a, "[]")
        self.assert_parameters("**a,", "[]", "[]", "None", "[]", "[]", a, "[]")
        self.assert_parameters("a, /, *b, **c", f"[{a}]", "[]", b, "[]", "[]", c, "[]")
        self.assert_parameters("*, a, **b", "[]", "[]", "None", f"[{a}]", "[None]", b, "[]")
        self.assert_parameters("a, a", "[]", f"[{a}, {a}]", "None", "[]", "[]", "None", "[]")
        self.assert_parameters("a=b if c else d", "[]", f"[{a}]", "None", "[]", "[]", "None",
            "[IfExp(Name('c'), Name('b'), Name('d'))]")

    def test_annotations(self):
        self.assertEqual(
            short(parse("def f(a: b, /, c: d = 1, *e: g, h: i = 2, **j: k): l")["body"][0]["args"]),
            "arguments([arg('a', Name('b'))], [arg('c', Name('d'))], arg('e', Name('g')), [arg('h', Name('i'))], [Constant(2)], arg('j', Name('k')), [Constant(1)])",
        )
        self.assert_refused(("def f(a: *b): c", 1, 9), ("def f(*a: *b): c", 1, 10), ("def f(a=1: b): c", 1, 9),
            ("def f(a: b := c): d", 1, 11), ("lambda a: b: c", 1, 11), ("def f(a:): b", 1, 8))

    def test_examples_that_are_refused(self):
        self.assert_refused(("def f(/)", 1, 6), ("def f(*)", 1, 7), ("def f(*, **a)", 1, 9),
            ("lambda a=1, b: c", 1, 13), ("def f(**a, b)", 1, 11))

    def test_what_is_refused(self):
        for text, column in (
            ("/", 0), ("/, a", 0), ("a, /, /", 6), ("a, /, b, /", 9), ("*, a, /", 6), ("*a, /", 4), ("a, *b, /", 7),
            ("a, *, b, /", 9), ("*, a, *b", 6),
            ("*a, *b", 4), ("*a, *", 4), ("**a, **b", 5), ("**a, *b", 5), ("**a, /", 5), ("*a=1", 2), ("**a=1", 3),
            ("a=1, /, b, c", 9),
            ("a=1, b, c", 6), ("a=1, b=2, c, d", 11), ("a=1, /, b, *c", 9), ("a=1, b, /", 6), ("*, *a", 3),
            ("*,, a", 2), ("a,, b", 2), (", a", 0), ("a b", 2), ("1", 0), ("a.b", 1), ("*1", 1), ("**1", 2),
            ("a=", 2), ("(a)", 0), ("*(a)", 1), ("*, /", 3), ("a, None", 3), ("a=*b", 2),
            ("a=yield", 2), ("a=b := c", 4), ("a, *, **b", 6),
        ):
            if text != "a=":
                self.assertEqual(refused(f"lambda {text}: x"), (1, column + 7), text)
            self.assertEqual(refused(f"def f({text}): x"), (1, column + 6), text)
        self.assert_refused(("def f(a=1, b): c", 1, 12), ("def f(*, ): c", 1, 9), ("lambda *: a", 1, 8),
            ("lambda *,: a", 1, 9), ("lambda a=1, b, c: d", 1, 13), ("def f(a=1, b: c): d", 1, 15),
            ("def f(a=1, /, b): c", 1, 15))


class BeginningsTest(TextTest):
    """Behind a comma, and where an expression may be missing, each token that begins one is taken."""

    ATOMS = ["a", "1 ", "'a'", "f'a'", "...", "None", "True", "False", "(a)", "[a]", "{a}", "b'a'", "match"]
    EXPRESSIONS = ATOMS + ["-a", "+a", "~a", "not a", "lambda: a", "await a"]

    def test_targets(self):
        for text in self.ATOMS + ["*a"]:
            self.assert_read(f"for x, {text}.b in c: d", f"[a for x, {text}[b] in c]")
            if text != "*a":
                self.assert_read(f"del x, {text}.b", f"del x, {text}[b],")
        for text in self.EXPRESSIONS[len(self.ATOMS):] + ["yield", "pass"]:
            self.assert_refused((f"del x, {text}", 1, 7), (f"for x, {text} in c: d", 1, 7))

    def test_expressions(self):
        for text in self.EXPRESSIONS:
            self.assert_read(
                f"x, {text}", f"return {text}", f"return x, {text}", f"yield {text}", f"yield x, {text}",
                f"raise {text}",
                f"x[{text}:]", f"x[:{text}]", f"x[::{text}]", f"try: x\nexcept {text}: y", f"x = y, {text}",
                f"for x in y, {text}: z", f"match x, {text}:\n case y: z", f"f({text})", f"f(x, {text})",
                f"[x, {text}]",
                f"(x, {text})", f"{{x, {text}}}", f"x[y, {text}]", f"{{x: y, {text}: z}}", f"class A({text}): x",
            )
            self.assertIsNone(refused(f"x, {text}", "eval"))
        self.assert_read("x, *a", "return x, *a", "yield x, *a", "for x in y, *a: z", "match x, *a:\n case y: z")

    def test_patterns(self):
        for text in ("1", "-1", "'a'", "b'a'", "None", "True", "False", "a", "_", "(a)", "[a]", "{}", "*a", "a.b",
            "A()"):
            self.assert_read(f"match x:\n case y, {text}: z")
        for text in ("f'a'", "+1", "...", "not a", "lambda: a", "**a"):
            self.assert_refused((f"match x:\n case y, {text}: z", 2, 9))


class ConstantsTest(TextTest):
    def test_constants(self):
        self.assert_expressions(("None", "Constant(None)"), ("True", "Constant(True)"), ("False", "Constant(False)"),
            ("...", "Constant(...)"), ("1", "Constant(1)"), ("'a' 'b'", "Constant('ab')"), ("b'a'", "Constant(b'a')"),
            ("1j", "Constant(Imaginary(Float(1, 0)))"))
        self.assertIs(parse("True")["body"][0]["value"]["value"], True)
        self.assertIs(type(parse("1")["body"][0]["value"]["value"]), int)
        self.assertEqual(parse("b'a'")["body"][0]["value"]["value"].numbers, (97,))
        self.assert_refused(("None = a", 1, 5), ("True: a", 1, 4), (". . .", 1, 0), ("None a", 1, 5),
            ("del None", 1, 8), ("..", 1, 0))


if __name__ == "__main__":
    unittest.main()
