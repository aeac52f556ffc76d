"""F-strings: DOC.md [29] and [30]."""

import unittest

from treequill.reading import parse

from helping import expression, refused, short
from test_tokens import TextTest


class JoinedTest(TextTest):
    def test_prefixes_and_quotes(self):
        for prefix in ("f", "F", "fr", "fR", "Fr", "FR", "rf", "rF", "Rf", "RF"):
            for quote in ("'", '"', "'''", '"""'):
                self.assertEqual(expression(f"{prefix}{quote}a{{b}}c{quote}"),
                    "JoinedStr([Constant('a'), FormattedValue(Name('b'), -1, None), Constant('c')])")
        self.assert_expressions(("f''", "JoinedStr([])"), ("f''''''", "JoinedStr([])"),
            ("f'a'", "JoinedStr([Constant('a')])"))

    def test_text(self):
        self.assert_expressions(
            ("f'{{}}'", "JoinedStr([Constant('{}')])"),
            ("f'{{{a}}}'", "JoinedStr([Constant('{'), FormattedValue(Name('a'), -1, None), Constant('}')])"),
            (r"f'\n\x41\101\\\''", "JoinedStr([Constant(\"\\nAA\\\\'\")])"),
            ("f'a\\\nb'", "JoinedStr([Constant('ab')])"), ("f'''a\nb'''", "JoinedStr([Constant('a\\nb')])"),
            (r"rf'\n'", r"JoinedStr([Constant('\\n')])"),
            (r"fr'\{a}'", r"JoinedStr([Constant('\\'), FormattedValue(Name('a'), -1, None)])"),
            (r"fr'\{{'", r"JoinedStr([Constant('\\{')])"), (r"fr'\''", "JoinedStr([Constant(\"\\\\'\")])"),
            ("fr'a\\\nb'", r"JoinedStr([Constant('a\\\nb')])"),
            (r"fr'\\{a}'", r"JoinedStr([Constant('\\\\'), FormattedValue(Name('a'), -1, None)])"),
            (r"fr'\}}'", r"JoinedStr([Constant('\\}')])"),
            ("f'#'", "JoinedStr([Constant('#')])"), ("f'a\"b'", "JoinedStr([Constant('a\"b')])"),
            ("f'''a'b''c'''", "JoinedStr([Constant(\"a'b''c\")])"), ("f'}}{{'", "JoinedStr([Constant('}{')])"),
            ("f'{{a}}'", "JoinedStr([Constant('{a}')])"),
        )

    def test_fields(self):
        self.assert_expressions(
            ("f'{a}'", "JoinedStr([FormattedValue(Name('a'), -1, None)])"),
            ("f'{a!s}{a!r}{a!a}'",
            "JoinedStr([FormattedValue(Name('a'), 115, None), FormattedValue(Name('a'), 114, None), FormattedValue(Name('a'), 97, None)])"),
            ("f'{ a + b }'", "JoinedStr([FormattedValue(BinOp(Name('a'), Add, Name('b')), -1, None)])"),
            ("f'{a, *b}'", "JoinedStr([FormattedValue(Tuple([Name('a'), Starred(Name('b'))]), -1, None)])"),
            ("f'{yield}'", "JoinedStr([FormattedValue(Yield(None), -1, None)])"),
            ("f'{yield a, b}'", "JoinedStr([FormattedValue(Yield(Tuple([Name('a'), Name('b')])), -1, None)])"),
            ("f'{a if b else c}'", "JoinedStr([FormattedValue(IfExp(Name('b'), Name('a'), Name('c')), -1, None)])"),
            ("f'{(a := b)}'", "JoinedStr([FormattedValue(NamedExpr(Name('a', Store), Name('b')), -1, None)])"),
            ("f'{ {a: b} }'", "JoinedStr([FormattedValue(Dict([Name('a')], [Name('b')]), -1, None)])"),
            ("f'{(lambda: a)}'",
            "JoinedStr([FormattedValue(Lambda(arguments([], [], None, [], [], None, []), Name('a')), -1, None)])"),
            ("f'{[lambda a: b]}'",
            "JoinedStr([FormattedValue(List([Lambda(arguments([], [arg('a', None)], None, [], [], None, []), Name('b'))]), -1, None)])"),
            ("f'{a[b:c]}'",
            "JoinedStr([FormattedValue(Subscript(Name('a'), Slice(Name('b'), Name('c'), None)), -1, None)])"),
            ("f'{a != b}'", "JoinedStr([FormattedValue(Compare(Name('a'), [NotEq], [Name('b')]), -1, None)])"),
            ("f'{a!=b}'", "JoinedStr([FormattedValue(Compare(Name('a'), [NotEq], [Name('b')]), -1, None)])"),
            ("f'{a,}'", "JoinedStr([FormattedValue(Tuple([Name('a')]), -1, None)])"),
            ("f'{a!r }'", "JoinedStr([FormattedValue(Name('a'), 114, None)])"),
            ("f'{a !r }'", "JoinedStr([FormattedValue(Name('a'), 114, None)])"),
            ("f'{f(a, b=c)}'",
            "JoinedStr([FormattedValue(Call(Name('f'), [Name('a')], [keyword('b', Name('c'))]), -1, None)])"),
            ("f'{await a}'", "JoinedStr([FormattedValue(Await(Name('a')), -1, None)])"),
            ("f'{a}{b}'", "JoinedStr([FormattedValue(Name('a'), -1, None), FormattedValue(Name('b'), -1, None)])"),
        )

    def test_strings_comments_and_line_feeds_in_fields(self):
        self.assert_expressions(
            ("f'{'a'}'", "JoinedStr([FormattedValue(Constant('a'), -1, None)])"),
            ("f'{f'{f'{a}'}'}'",
            "JoinedStr([FormattedValue(JoinedStr([FormattedValue(JoinedStr([FormattedValue(Name('a'), -1, None)]), -1, None)]), -1, None)])"),
            ("f'{a\n}'", "JoinedStr([FormattedValue(Name('a'), -1, None)])"),
            ("f'{a # b'}\n}'", "JoinedStr([FormattedValue(Name('a'), -1, None)])"),
            ("f'{\na\\\n}'", "JoinedStr([FormattedValue(Name('a'), -1, None)])"),
            ("f'{b'a'}'", "JoinedStr([FormattedValue(Constant(b'a'), -1, None)])"),
            ("f'{'''a\nb'''}'", "JoinedStr([FormattedValue(Constant('a\\nb'), -1, None)])"),
            ("f'{'\\n'}'", "JoinedStr([FormattedValue(Constant('\\n'), -1, None)])"),
            ("f'''{\n'a' 'b'}'''", "JoinedStr([FormattedValue(Constant('ab'), -1, None)])"),
            ("f\"{'a'}\"", "JoinedStr([FormattedValue(Constant('a'), -1, None)])"),
            ("f'{a['b']}'", "JoinedStr([FormattedValue(Subscript(Name('a'), Constant('b')), -1, None)])"),
            ("f'{'}'}'", "JoinedStr([FormattedValue(Constant('}'), -1, None)])"),
            ("f'{\"#\"}'", "JoinedStr([FormattedValue(Constant('#'), -1, None)])"),
        )

    def test_specs(self):
        self.assert_expressions(
            ("f'{a:b}'", "JoinedStr([FormattedValue(Name('a'), -1, JoinedStr([Constant('b')]))])"),
            ("f'{a:}'", "JoinedStr([FormattedValue(Name('a'), -1, JoinedStr([]))])"),
            ("f'{a!r:>{b}.{c!s}f}'",
            "JoinedStr([FormattedValue(Name('a'), 114, JoinedStr([Constant('>'), FormattedValue(Name('b'), -1, None), Constant('.'), FormattedValue(Name('c'), 115, None), Constant('f')]))])"),
            ("f'{a:=5}'", "JoinedStr([FormattedValue(Name('a'), -1, JoinedStr([Constant('=5')]))])"),
            ("f'{a:b # c:d}'", "JoinedStr([FormattedValue(Name('a'), -1, JoinedStr([Constant('b # c:d')]))])"),
            ("f'{a:{{b}}}'",
            "JoinedStr([FormattedValue(Name('a'), -1, JoinedStr([FormattedValue(Set([Name('b')]), -1, None)]))])"),
            ("f'{a: b }'", "JoinedStr([FormattedValue(Name('a'), -1, JoinedStr([Constant(' b ')]))])"),
            ("f'{a:{'b'}}'",
            "JoinedStr([FormattedValue(Name('a'), -1, JoinedStr([FormattedValue(Constant('b'), -1, None)]))])"),
            ("f'{a:{b,c}}'",
            "JoinedStr([FormattedValue(Name('a'), -1, JoinedStr([FormattedValue(Tuple([Name('b'), Name('c')]), -1, None)]))])"),
            ("f'{a:!r}'", "JoinedStr([FormattedValue(Name('a'), -1, JoinedStr([Constant('!r')]))])"),
            ("f'{a:::}'", "JoinedStr([FormattedValue(Name('a'), -1, JoinedStr([Constant('::')]))])"),
            ("f'{a:{b}{c}}'",
            "JoinedStr([FormattedValue(Name('a'), -1, JoinedStr([FormattedValue(Name('b'), -1, None), FormattedValue(Name('c'), -1, None)]))])"),
            ("f'{a:{f'{b:c}'}}'",
            "JoinedStr([FormattedValue(Name('a'), -1, JoinedStr([FormattedValue(JoinedStr([FormattedValue(Name('b'), -1, JoinedStr([Constant('c')]))]), -1, None)]))])"),
            ("f'{a:{\nb\n}}'",
            "JoinedStr([FormattedValue(Name('a'), -1, JoinedStr([FormattedValue(Name('b'), -1, None)]))])"),
        )

    def test_strings_side_by_side(self):
        self.assert_expressions(
            ("'a' f'{b}' 'c'", "JoinedStr([Constant('a'), FormattedValue(Name('b'), -1, None), Constant('c')])"),
            ("f'a' 'b'", "JoinedStr([Constant('ab')])"),
            ("'a' f'b{c}d' 'e' f'f{g}'",
            "JoinedStr([Constant('ab'), FormattedValue(Name('c'), -1, None), Constant('def'), FormattedValue(Name('g'), -1, None)])"),
            ("'' f'' ''", "JoinedStr([])"), ("f'{a}' '' f'{b}'",
            "JoinedStr([FormattedValue(Name('a'), -1, None), FormattedValue(Name('b'), -1, None)])"),
            ("'{a}' f'{a}'", "JoinedStr([Constant('{a}'), FormattedValue(Name('a'), -1, None)])"),
            ("(f'{a}' # b\n 'c')", "JoinedStr([FormattedValue(Name('a'), -1, None), Constant('c')])"),
            ("f'a'.b", "Attribute(JoinedStr([Constant('a')]), 'b')"),
            ("r'\\a' f'\\n'", "JoinedStr([Constant('\\\\a\\n')])"),
        )

    def test_examples(self):
        self.assert_read("f'{a !r }'")
        self.assert_refused(("f'{a! r}'", 1, 6), ("f'{a!rs}'", 1, 5), ("f'{a:b'", 1, 6), ("f'{a'", 1, 4),
            ("f'{'", 1, 4))

    def test_what_is_refused_in_text(self):
        self.assert_refused(
            ("f'}'", 1, 2), ("f'a}b'", 1, 3), ("f'{a}}'", 1, 5), ("f'}}}'", 1, 4), ("f'\\q'", 1, 2),
            ("f'a\\{b}'", 1, 3), ("f'\\}}'", 1, 2), ("f'a\n'", 1, 3), ("f'", 1, 2), ("f'a", 1, 3), ("f'''a'", 1, 6),
            ("f'\\", 1, 3), ("f'\\x4", 1, 5), ("f'\\1", 1, 4), ("fr'\\", 1, 4), ("f'\\u0041'", 1, 2),
            ("fr'\\}'", 1, 4), ("f'{{}'", 1, 4), ("f'}", 1, 2), ("f'{{", 1, 4), ("f'{a}\\q'", 1, 5),
            ("f'{a}\n", 1, 5), ("f'''{a}\n", 2, 0),
            ("f'\\N{a}'", 1, 2), ("rf'a\n'", 1, 4), ("f'\\x4g'", 1, 2), ("f'\\'", 1, 4), ("f'{a}b}c'", 1, 6),
            ("f'''\n}'''", 2, 0),
        )

    def test_what_is_refused_in_fields(self):
        self.assert_refused(
            ("f'{}'", 1, 3), ("f'{ }'", 1, 4), ("f'{!r}'", 1, 3), ("f'{:a}'", 1, 3), ("f'{a b}'", 1, 5),
            ("f'{a=}'", 1, 4), ("f'{a = }'", 1, 5), ("f'{a=!r}'", 1, 4), ("f'{lambda: a}'", 1, 3),
            ("f'{lambda a: b}'", 1, 3), ("f'{a if b else lambda: c}'", 1, 15), ("f'{*a}'", 1, 5), ("f'{a!}'", 1, 5),
            ("f'{a!x}'", 1, 5), ("f'{a!r!s}'", 1, 6), ("f'{a!\nr}'", 2, 0), ("f'{a!#\nr}'", 2, 0), ("f'{a!1}'", 1, 5),
            ("f'{a!'r'}'", 1, 5), ("f'{a!r'", 1, 5),
            ("f'{a)}'", 1, 4), ("f'{(a}'", 1, 5), ("f'{a", 1, 4), ("f'{a\n", 2, 0), ("f'{a #'}", 1, 8),
            ("f'{'a}'", 1, 7), ("f'{\"a}'", 1, 7), ("f'{a'b'}'", 1, 4), ("f'{a;b}'", 1, 4), ("f'{a = b}'", 1, 5),
            ("f'{pass}'", 1, 3), ("f'{a!r b}'", 1, 7), ("f'{a\\n}'", 1, 4), ("f'{a ?}'", 1, 5), ("f'{1__0}'", 1, 3),
            ("f'{a} {' '}{b", 1, 13), ("f'{\\", 1, 4), ("f'{**a}'", 1, 3), ("f'{a for b in c}'", 1, 5),
            ("f'{a:=b!r}{c:=d", 1, 15), ("f'{(a!r)}'", 1, 5), ("f'{a[lambda]}'", 1, 11),
            ("f'{a!r\n:b\n}'", 2, 2), ("f'{f'{'", 1, 7), ("f'{f'{a'", 1, 7), ("f'{f'a'", 1, 7), ("f'{'\\q'}'", 1, 4),
            ("f'{a!True}'", 1, 5), ("f'{a!R}'", 1, 5), ("f'{{a}'", 1, 5), ("f'{yield = a}'", 1, 9),
            ("f'{a:{b}:{lambda}}'", 1, 10), ("f'{a!=}'", 1, 6), ("f'{a! =b}'", 1, 6),
        )
        self.assert_read("f'{a!r\n}'", "f'{a!r#b\n}'")

    def test_what_is_refused_in_specs(self):
        self.assert_refused(
            ("f'{a:'b'}'", 1, 5), ("f'{a:b\"}'", 1, 6), ("f'{a:\\n}'", 1, 5), ("f'{a:b\n}'", 1, 6), ("f'{a:", 1, 5),
            ("f'{a:b", 1, 6), ("f'{a:{b:c}}'", 1, 7), ("f'{a:{b!r:c}}'", 1, 9), ("f'{a:{}}'", 1, 6),
            ("f'{a:{b}", 1, 8), ("f'''{a:\n}'''", 1, 7), ("f'{a:{{b}}'", 1, 10), ("f'{a:}}'", 1, 6),
            ("f'{a:b}}'", 1, 7), ("f\"{a:'}\"", 1, 5), ("rf'{a:\\}'", 1, 6), ("f'''{a:''}'''", 1, 7),
            ("f'{a:{{b'", 1, 9), ("f'{a:{{c'", 1, 8), ("f'{a:{b c}}'", 1, 8), ("f'{a:{b}'", 1, 8),
            ("f'{a:{b!x}}'", 1, 8), ("f'{a:{{}}'", 1, 9), ("f'{a:}", 1, 6), ("f'{a:{b}}", 1, 9),
            ("f'{a:{lambda: b}}'", 1, 6), ("f'{a:{b:=c}}'", 1, 7), ("f'{a:{'b\\q'}}'", 1, 8), ("f'{a:{b=}}'", 1, 7),
        )

    def test_f_strings_that_cannot_stand_where_they_begin(self):
        self.assert_refused(("a f'", 1, 2), ("a f'{", 1, 2), ("b'a' f'}'", 1, 5), ("f'a' b'", 1, 5), ("a.f'b'", 1, 2),
            ("def f'a'", 1, 4), ("import f'a'", 1, 7), ("f'{a f'b'}'", 1, 5), ("f'{a}' b", 1, 7))
        self.assertEqual(refused("f'{a}' = b"), (1, 7))

    def test_numbers_of_conversions(self):
        for letter, number in (("s", 115), ("r", 114), ("a", 97)):
            node = parse(f"f'{{x!{letter}}}'")["body"][0]["value"]["values"][0]
            self.assertEqual(node["conversion"], number)
        self.assertIsNone(parse("f'{x}'")["body"][0]["value"]["values"][0]["format_spec"])
        self.assertEqual(short(parse("f'{x:}'")["body"][0]["value"]["values"][0]["format_spec"]), "JoinedStr([])")


if __name__ == "__main__":
    unittest.main()
