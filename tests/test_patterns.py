"""Patterns: DOC.md [28]."""

import unittest

from treequill.reading import parse

from helping import refused, short
from test_tokens import TextTest


def pattern(text):
    """Return the short text of a pattern."""
    return short(parse(f"match x:\n case {text}: y")["body"][0]["cases"][0]["pattern"])


class PatternsTest(TextTest):
    def assert_patterns(self, *rows):
        for text, wanted in rows:
            self.assertEqual(pattern(text), wanted, text)

    def assert_refused_patterns(self, *rows):
        """Check the columns in the text of a pattern at which it is refused; a colon stands behind it."""
        for text, column in rows:
            self.assertEqual(refused(f"match x:\n case {text}: y"), (2, column + 6), text)

    def test_literals(self):
        one, two_j = "Constant(1)", "Constant(Imaginary(Float(1, 1)))"
        self.assert_patterns(
            ("1", f"MatchValue({one})"), ("-1", f"MatchValue(UnaryOp(USub, {one}))"),
            ("1.5", "MatchValue(Constant(Float(3, -1)))"), ("2j", f"MatchValue({two_j})"),
            ("-2j", f"MatchValue(UnaryOp(USub, {two_j}))"), ("1 + 2j", f"MatchValue(BinOp({one}, Add, {two_j}))"),
            ("1-2j", f"MatchValue(BinOp({one}, Sub, {two_j}))"),
            ("-1 + 2j", f"MatchValue(BinOp(UnaryOp(USub, {one}), Add, {two_j}))"),
            ("- 1.5 - 2j", f"MatchValue(BinOp(UnaryOp(USub, Constant(Float(3, -1))), Sub, {two_j}))"),
            ("'a'", "MatchValue(Constant('a'))"), ("'a' r'\\b'", "MatchValue(Constant('a\\\\b'))"),
            ("b'a' b'b'", "MatchValue(Constant(b'ab'))"), ("0x10", "MatchValue(Constant(16))"),
            ("None", "MatchSingleton(None)"), ("True", "MatchSingleton(True)"), ("False", "MatchSingleton(False)"),
        )
        self.assert_refused_patterns(
            ("1 + 2", 4), ("1 + -2j", 4), ("2j + 2j", 3), ("2j + 1", 3), ("1 * 2", 2), ("--1", 1), ("+1", 0),
            ("-a", 1), ("-None", 1), ("-'a'", 1), ("~1", 0), ("1 + 2j + 3j", 7), ("1 + a", 4), ("...", 0),
            ("'a' + 'b'", 4), ("-(1)", 1), ("(1) + 2j", 4), ("1 + (2j)", 4), ("1.a", 0), ("'a'.b", 3),
            ("'a' b'b'", 4), ("'a' 'b\\q'", 6), ("None.a", 4), ("1__0", 0), ("-1.5 + 2.5", 7),
            ("f'a'", 0), ("'a' f'b'", 4), ("f'{", 0), ("'a' f'{b}' 'c'", 4), ("- - 2j", 2), ("None + 2j", 5),
            ("not a", 0), ("lambda: a", 0),
        )

    def test_captures_and_names_with_points(self):
        self.assert_patterns(
            ("a", "MatchAs(None, 'a')"), ("_", "MatchAs(None, None)"),
            ("a.b", "MatchValue(Attribute(Name('a'), 'b'))"),
            ("a.b.c", "MatchValue(Attribute(Attribute(Name('a'), 'b'), 'c'))"),
            ("a._", "MatchValue(Attribute(Name('a'), '_'))"), ("a as b", "MatchAs(MatchAs(None, 'a'), 'b')"),
            ("_ as b", "MatchAs(MatchAs(None, None), 'b')"),
            ("(a as b) as c", "MatchAs(MatchAs(MatchAs(None, 'a'), 'b'), 'c')"), ("match", "MatchAs(None, 'match')"),
            ("__", "MatchAs(None, '__')"), ("1 as a", "MatchAs(MatchValue(Constant(1)), 'a')"),
            ("case.match", "MatchValue(Attribute(Name('case'), 'match'))"),
        )
        self.assert_refused_patterns(("_.a", 1), ("a as _", 5), ("a as b.c", 6), ("a as b as c", 7), ("a as", 4),
            ("a as (b)", 5), ("a.1", 1), ("a.", 2), ("a[b]", 1), ("a b", 2), ("a as 1", 5), ("a.b.", 4),
            ("a := b", 2), ("a + b", 2), ("a as b | c", 7), ("as", 0), ("_._", 1), ("a as None", 5))

    def test_choices(self):
        self.assert_patterns(
            ("a | b", "MatchOr([MatchAs(None, 'a'), MatchAs(None, 'b')])"),
            ("1 | 2 | 3", "MatchOr([MatchValue(Constant(1)), MatchValue(Constant(2)), MatchValue(Constant(3))])"),
            ("a | b as c", "MatchAs(MatchOr([MatchAs(None, 'a'), MatchAs(None, 'b')]), 'c')"),
            ("(a | b) | c", "MatchOr([MatchOr([MatchAs(None, 'a'), MatchAs(None, 'b')]), MatchAs(None, 'c')])"),
            ("a | (b as c)", "MatchOr([MatchAs(None, 'a'), MatchAs(MatchAs(None, 'b'), 'c')])"),
            ("(a)", "MatchAs(None, 'a')"), ("((a | b))", "MatchOr([MatchAs(None, 'a'), MatchAs(None, 'b')])"),
            ("a | [] | {}", "MatchOr([MatchAs(None, 'a'), MatchSequence([]), MatchMapping([], [], None)])"),
        )
        self.assert_refused_patterns(("| a", 0), ("a |", 3), ("a | | b", 4), ("a | *b", 4), ("a or b", 2),
            ("(a as b | c)", 8), ("a | b as c as d", 11))

    def test_sequences(self):
        a, b, star = "MatchAs(None, 'a')", "MatchAs(None, 'b')", "MatchStar('b')"
        self.assert_patterns(
            ("[]", "MatchSequence([])"), ("()", "MatchSequence([])"), ("[a]", f"MatchSequence([{a}])"),
            ("(a,)", f"MatchSequence([{a}])"), ("a,", f"MatchSequence([{a}])"),
            ("a, b", f"MatchSequence([{a}, {b}])"), ("a, b,", f"MatchSequence([{a}, {b}])"),
            ("(a, b,)", f"MatchSequence([{a}, {b}])"), ("[a, b,]", f"MatchSequence([{a}, {b}])"),
            ("a, *b", f"MatchSequence([{a}, {star}])"), ("*b,", f"MatchSequence([{star}])"),
            ("[*b]", f"MatchSequence([{star}])"), ("(*b,)", f"MatchSequence([{star}])"),
            ("[*_]", "MatchSequence([MatchStar(None)])"), ("*b, a", f"MatchSequence([{star}, {a}])"),
            ("[*b, *b]", f"MatchSequence([{star}, {star}])"),
            ("(a, [b])", f"MatchSequence([{a}, MatchSequence([{b}])])"), ("((a, b))", f"MatchSequence([{a}, {b}])"),
            ("a as b, a", f"MatchSequence([MatchAs({a}, 'b'), {a}])"),
            ("(a as b, a | b)", f"MatchSequence([MatchAs({a}, 'b'), MatchOr([{a}, {b}])])"),
            ("(), []", "MatchSequence([MatchSequence([]), MatchSequence([])])"),
        )
        self.assert_refused_patterns(("*a", 2), ("(*a)", 3), ("[,]", 1), ("(,)", 1), ("a,,", 2), ("[a b]", 3),
            ("*a as b", 3), ("*(a)", 1), ("*1", 1), ("*a.b,", 2), ("[a,,b]", 3), ("(a", 2), ("*", 1),
            ("[a for a in b]", 3), ("*a | b,", 3), ("(a, *b) + c", 8), ("**a", 0), ("*None,", 1))

    def test_mappings(self):
        self.assert_patterns(
            ("{}", "MatchMapping([], [], None)"),
            ("{'a': b}", "MatchMapping([Constant('a')], [MatchAs(None, 'b')], None)"),
            ("{'a': b, **c}", "MatchMapping([Constant('a')], [MatchAs(None, 'b')], 'c')"),
            ("{**a}", "MatchMapping([], [], 'a')"), ("{**a,}", "MatchMapping([], [], 'a')"),
            ("{'a': b,}", "MatchMapping([Constant('a')], [MatchAs(None, 'b')], None)"),
            ("{'a': b, **c,}", "MatchMapping([Constant('a')], [MatchAs(None, 'b')], 'c')"),
            ("{None: a, True: b, False: c}",
            "MatchMapping([Constant(None), Constant(True), Constant(False)], [MatchAs(None, 'a'), MatchAs(None, 'b'), MatchAs(None, 'c')], None)"),
            ("{-1: a, 1 + 2j: b}",
            "MatchMapping([UnaryOp(USub, Constant(1)), BinOp(Constant(1), Add, Constant(Imaginary(Float(1, 1))))], [MatchAs(None, 'a'), MatchAs(None, 'b')], None)"),
            ("{_.a: b, c.d.e: _}",
            "MatchMapping([Attribute(Name('_'), 'a'), Attribute(Attribute(Name('c'), 'd'), 'e')], [MatchAs(None, 'b'), MatchAs(None, None)], None)"),
            ("{'a': b as c, b'd' b'e': f | g}",
            "MatchMapping([Constant('a'), Constant(b'de')], [MatchAs(MatchAs(None, 'b'), 'c'), MatchOr([MatchAs(None, 'f'), MatchAs(None, 'g')])], None)"),
        )
        self.assert_refused_patterns(("{**a, b", 6), ("{a: b}", 2), ("{**_}", 3), ("{'a': b, **_}", 11),
            ("{_: a}", 2), ("{'a'}", 4), ("{'a': *b}", 6), ("{**a, **b}", 6), ("{,}", 1), ("{'a': b,, 'c': d}", 8),
            ("{'a': b c}", 8), ("{[]: a}", 1), ("{(1): a}", 1), ("{f'a': b}", 1), ("{**a.b}", 4), ("{1 + 2: a}", 5),
            ("{a.b(): c}", 4), ("{'a' f'b': c}", 5), ("{**1}", 3), ("{**a 'b': c}", 5), ("{**a,,}", 5))

    def test_classes(self):
        self.assert_patterns(
            ("A()", "MatchClass(Name('A'), [], [], [])"),
            ("a.B()", "MatchClass(Attribute(Name('a'), 'B'), [], [], [])"),
            ("A(b, c)", "MatchClass(Name('A'), [MatchAs(None, 'b'), MatchAs(None, 'c')], [], [])"),
            ("A(b, c=d, e=1,)",
            "MatchClass(Name('A'), [MatchAs(None, 'b')], ['c', 'e'], [MatchAs(None, 'd'), MatchValue(Constant(1))])"),
            ("A(b=c | d as e)",
            "MatchClass(Name('A'), [], ['b'], [MatchAs(MatchOr([MatchAs(None, 'c'), MatchAs(None, 'd')]), 'e')])"),
            ("A(b as c,)", "MatchClass(Name('A'), [MatchAs(MatchAs(None, 'b'), 'c')], [], [])"),
            ("A(b, _=c)", "MatchClass(Name('A'), [MatchAs(None, 'b')], ['_'], [MatchAs(None, 'c')])"),
            ("A(_=b)", "MatchClass(Name('A'), [], ['_'], [MatchAs(None, 'b')])"),
            ("A(B(), [c])",
            "MatchClass(Name('A'), [MatchClass(Name('B'), [], [], []), MatchSequence([MatchAs(None, 'c')])], [], [])"),
            ("A(_)", "MatchClass(Name('A'), [MatchAs(None, None)], [], [])"),
            ("A(b=c, b=d)", "MatchClass(Name('A'), [], ['b', 'b'], [MatchAs(None, 'c'), MatchAs(None, 'd')])"),
        )
        self.assert_refused_patterns(("A(b=c, d)", 8), ("A(,)", 2), ("A(b,,)", 4), ("_()", 1), ("_.a()", 1),
            ("A(*b)", 2), ("A(**b)", 2), ("A(b.c=d)", 5), ("A(1=b)", 3), ("A(b=)", 4), ("A()()", 3), ("A().b", 3),
            ("A(b c)", 4), ("A(b=c, 1)", 7), ("A(b=c, d.e=f)", 8), ("A(b=*c)", 4), ("A(b := c)", 4), ("A[b]", 1),
            ("A(b=c as d, e)", 13), ("A(b == c)", 4), ("1()", 1), ("A(=b)", 2))

    def test_examples_that_are_refused(self):
        for text, column in (("case _.a", 7), ("case 1 + 2", 10), ("case *a:", 8), ("case A(b=c, d)", 14),
            ("case {**a, b", 12)):
            self.assertEqual(refused(f"match x:\n {text}"), (2, column), text)

    def test_guards_and_ends_of_cases(self):
        self.assert_refused_patterns(("a if", 4), ("a if b, c", 6), ("a if *b", 5), ("a if b if c", 11), ("if a", 0),
            ("", 0), ("a if yield", 5))
        self.assert_read("match a:\n case b if c if d else e: f", "match a:\n case b if (yield): f",
            "match a:\n case b if lambda: c: d")


if __name__ == "__main__":
    unittest.main()
