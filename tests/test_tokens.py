"""Lines, tokens, indentations, numbers and strings: DOC.md [6] to [11]."""

import unittest

from treequill.reading import parse

from helping import expression, place, refused, segment, short, statements

KEYWORDS = (
    "False None True and as assert async await break class continue def del elif else except finally for from global if"
    " import in is lambda nonlocal not or pass raise return try while with yield"
).split()


class TextTest(unittest.TestCase):
    """Tests with tables of texts."""

    def assert_expressions(self, *rows):
        for text, wanted in rows:
            self.assertEqual(expression(text), wanted, text)

    def assert_refused(self, *rows):
        for text, line, column in rows:
            self.assertEqual(refused(text), (line, column), repr(text))

    def assert_read(self, *texts):
        for text in texts:
            self.assertIsNone(refused(text), repr(text))

    def assert_same(self, wanted, *texts):
        for text in texts:
            self.assertEqual(short(parse(text)), short(parse(wanted)), repr(text))


class LinesTest(TextTest):
    def test_empty_texts(self):
        for text in ("", "\n", "\n\n", "   ", "# a", "  # a\n", " \n  \n# b\n\n", "#\\", "#\\\n"):
            self.assertEqual(short(parse(text)), "Module([])", repr(text))

    def test_blank_lines_and_comments(self):
        self.assert_same("a\nb", "\na\n\nb\n", "a # b\n# c\n  # d\nb #", "a\n   \nb\n  ", "a\n      # c\nb",
            "a#b\nb#")
        self.assert_same("if a:\n b\n c", "if a: # d\n\n b\n# e\n   # f\n c\n\n", "if a:\n        b\n\n        c")
        self.assert_same("a", "a # \\", "a # \\\n", "a # \\\n# b")
        self.assert_same("a\nb", "a # c \\\nb")

    def test_joined_lines(self):
        self.assert_same("a + b", "a + \\\nb", "a \\\n+ \\\n b", "a + b \\\n\n", "a + b \\\n # c\n", "a + b\\\n   ")
        self.assert_same("(a + b)", "(a +\n b)", "(a\n# c )\n + b # d\n\n)", "( \\\n a + b)", "(\n\n\na\n+\nb\n)\n")
        self.assert_same("if a:\n b", "if \\\n    a: \\\n\n b", "if (\na\n):\n b")
        self.assert_same("if a: b", "if a: \\\n  b")
        self.assert_same("x = 'a' 'b'", "x = 'a' \\\n'b'")

    def test_backslashes_that_are_refused(self):
        self.assert_refused(
            ("a\\", 1, 2), ("a \\", 1, 3), ("a \\\n", 2, 0), ("(a \\", 1, 4), ("(a \\\n", 2, 0), ("(a) \\\n", 2, 0),
            ("a \\ \nb", 1, 2), ("a + \\b", 1, 4), ("a \\\\\n", 1, 2), ("a; \\\n", 2, 0), ("if a:\n  b\\\n", 3, 0),
            ("a \\ # b\n", 1, 2), ("f'{a \\\n", 2, 0), ("a\nb \\", 2, 3), ("a \\\n\\\n", 3, 0), ("a \\ ", 1, 2),
            ("(a \\ )", 1, 3), ("[a, \\b]", 1, 4),
        )
        self.assert_read("a \\\n ", "a \\\n\n", "a \\\n# b", "a \\\n;\n")

    def test_places_of_the_end_of_a_line(self):
        self.assert_refused(
            ("a +", 1, 3), ("a + # c", 1, 7), ("a +   \nb", 1, 6), ("a + # c\nb", 1, 7), ("a + \\\n\nb", 2, 0),
            ("a + \\\n # c\nb", 2, 4), ("(a +", 1, 4), ("(a +\n", 2, 0), ("(a\n\n\n", 4, 0), ("a = # b\n\n", 1, 7),
            ("if a:", 1, 5), ("if a:\n", 2, 0), ("if a:\n\n  # b\n", 4, 0), ("if a: # b", 1, 9), ("(a # b", 1, 6),
            ("a + (\n) +\n\n", 2, 3),
        )

    def test_indentations(self):
        self.assert_same(
            "if a:\n b\n if c:\n  d\ne", "if a:\n   b\n   if c:\n    d\ne",
            "if a:\n      b\n      if c:\n         d\ne",
        )
        self.assert_same("if a:\n if b:\n  if c:\n   d\ne", "if a:\n   if b:\n       if c:\n         d\ne\n")
        self.assert_same("if a:\n b\nelse:\n c", "if a:\n   b\nelse:\n     c")
        self.assert_same("if a:\n b = (c +\nd)", "if a:\n b = (c +\n                    d)")

    def test_indentations_that_are_refused(self):
        self.assert_refused(
            (" a", 1, 1), ("   a", 1, 3), ("\n  a", 2, 2), ("a\n b", 2, 1), ("if a:\nb", 2, 0),
            ("if a:\n  b\n   c", 3, 3),
            ("if a:\n  b\n c", 3, 1), ("if a:\n  b\n  c\n d", 4, 1), ("if a:\n  if b:\n    c\n   d", 4, 3),
            ("if a:\n  if b:\n    c\n  d\n e", 5, 1), ("if a: b\n  c", 2, 2), ("if a:\n  b\nelse:\nc", 4, 0),
            ("  # a\n  b", 2, 2), ("if a:\n\n   # c\nb", 4, 0), ("if a:\n  b\n 'c", 3, 1), (" 'a", 1, 1),
            ("@a\n  def b(): c", 2, 2),
            ("match a:\n  case b: c\n d", 3, 1), ("match a:\n  case b: c\n   case d: e", 3, 3), ("try: a\n b", 2, 1),
        )


class TokensTest(TextTest):
    def test_names(self):
        for name in ("a", "A", "_", "__", "_1", "a1_B", "match", "case", "type", "Nonex", "iff", "True_", "none",
            "print"):
            self.assertEqual(expression(name), f"Name({name!r})")

    def test_keywords_are_no_names(self):
        self.assertEqual(len(KEYWORDS), 35)
        for word in KEYWORDS:
            self.assertEqual(refused(f"a.{word}"), (1, 2), word)
            self.assertEqual(refused(f"def {word}(): a"), (1, 4), word)
            self.assertEqual(refused(f"global {word}"), (1, 7), word)
            self.assert_read(f"a.{word}_", f"global _{word}")

    def test_the_longest_token_is_taken(self):
        self.assert_expressions(
            ("a<<b", "BinOp(Name('a'), LShift, Name('b'))"), ("a**b", "BinOp(Name('a'), Pow, Name('b'))"),
            ("a//b", "BinOp(Name('a'), FloorDiv, Name('b'))"), ("a<=b", "Compare(Name('a'), [LtE], [Name('b')])"),
            ("a!=b", "Compare(Name('a'), [NotEq], [Name('b')])"),
            ("a--b", "BinOp(Name('a'), Sub, UnaryOp(USub, Name('b')))"),
            ("...", "Constant(...)"), ("a. b", "Attribute(Name('a'), 'b')"), ("a .b", "Attribute(Name('a'), 'b')"),
            ("a[...:]", "Subscript(Name('a'), Slice(Constant(...), None, None))"),
            ("a[b:=c]", "Subscript(Name('a'), NamedExpr(Name('b', Store), Name('c')))"),
        )
        self.assert_refused(
            ("a***b", 1, 3), ("a< =b", 1, 3), ("a! =b", 1, 1), ("a = = b", 1, 4), ("a ....b", 1, 2),
            ("a : = b", 1, 4),
            ("def f() - > a: b", 1, 8), ("a + = b", 1, 4), ("a ===b", 1, 4), ("a<>b", 1, 2), ("a->b", 1, 1),
            ("a:=b", 1, 1),
        )

    def test_characters_at_which_no_token_begins(self):
        for sign in ("?", "$", "!", "`"):
            self.assert_refused((f"a {sign}", 1, 2), (sign, 1, 0), (f"(a, {sign})", 1, 4), (f"a = {sign} 'b", 1, 4))
            self.assert_read(f"a # {sign}", f"'{sign}'")

    def test_spaces(self):
        self.assert_same("f(a,b)[c:d]", "f ( a , b ) [ c : d ] ", "f(a  ,\nb)\\\n[c:d]", "f(#)\na,b)[c:#]\nd]")
        self.assertEqual(expression("a if b else c"), expression("(a)if(b)else(c)"))

    def test_brackets_that_do_not_match(self):
        self.assert_refused(
            (")", 1, 0), ("a)", 1, 1), ("(a]", 1, 2), ("[a)", 1, 2), ("{a]", 1, 2), ("(a}", 1, 2), ("a]", 1, 1),
            ("}", 1, 0),
            ("f'{(a}'", 1, 5), ("f'{a)}'", 1, 4), ("([a)]", 1, 3), ("f(a\n]", 2, 0), ("a[(b]", 1, 4),
        )


class NumbersTest(TextTest):
    def test_integers(self):
        rows = [("0", 0), ("7", 7), ("00", 0), ("0_0", 0), ("1_000", 1000),
            ("123456789012345678901234567890", 123456789012345678901234567890),
                ("0x1F", 31), ("0XfF", 255), ("0x_1f", 31), ("0x_a_B", 171), ("0o17", 15), ("0O7_1", 57),
                ("0b101", 5),
                ("0B_1_0", 2), ("0x0", 0), ("0b0", 0), ("0o0", 0), ("9" * 200, int("9" * 200)), ("1_2_3", 123)]
        for text, value in rows:
            self.assertEqual(expression(text), f"Constant({value})", text)

    def test_floats(self):
        rows = [("1.5", "Float(3, -1)"), ("1.", "Float(1, 0)"), (".5", "Float(1, -1)"), ("1e3", "Float(125, 3)"),
                ("1E3", "Float(125, 3)"), ("1.e1", "Float(5, 1)"), (".5e+1", "Float(5, 0)"), ("5e-1", "Float(1, -1)"),
                ("012.5", "Float(25, -1)"), ("00.0", "Float(0, 0)"), ("0e0", "Float(0, 0)"),
                ("1_0.0_5e0_1", "Float(201, -1)"),
                ("01e1", "Float(5, 1)"), ("1e309", "Float(1, 1024)"), ("1e9999", "Float(1, 1024)")]
        for text, value in rows:
            self.assertEqual(expression(text), f"Constant({value})", text)

    def test_imaginary_numbers(self):
        rows = [("1j", "Float(1, 0)"), ("1J", "Float(1, 0)"), ("0.5j", "Float(1, -1)"), (".5J", "Float(1, -1)"),
                ("1.j", "Float(1, 0)"), ("1e1j", "Float(5, 1)"), ("012j", "Float(3, 2)"), ("0j", "Float(0, 0)"),
                ("1_0j", "Float(5, 1)")]
        for text, value in rows:
            self.assertEqual(expression(text), f"Constant(Imaginary({value}))", text)

    def test_examples_that_are_refused(self):
        for text in ("012", "1__0", "0b12", "1e", "1.real"):
            self.assertEqual(refused(text), (1, 0), text)
        self.assertEqual(refused("1.5.2"), (1, 3))

    def test_numbers_that_are_refused_at_their_first_character(self):
        for text in ("1_", "1_a", "1a", "0x", "0xg", "0x_", "0x1_", "0x1__2", "0b2", "0b", "0b1_", "0o8", "0o",
            "0o18", "00_1", "01",
                     "0_1", "1_.5", "1._5", "1.5_", "1e+", "1e-", "1e5_", "1e_5", "1.5e", "1jj", "1j1", "1.5x", "1if",
                     "0xfor",
                     "1else", "1.e", "1.5e+x", ".5_", "0b1j", "0x1j2g", "09", "1_000_", "0_", "1e5x", "0b1or"):
            self.assertEqual(refused(f"a = {text}"), (1, 4), text)
            self.assertEqual(refused(f"f({text})"), (1, 2), text)

    def test_ends_of_numbers(self):
        self.assertEqual(expression("0o7 if 0b1 else 0xf"), "IfExp(Constant(1), Constant(7), Constant(15))")
        for text in ("0", "00", "12_3", "0o7", "0b1", "0xf", "1.5", "1.", ".5", "1e5", "1j", "0_1.5e0_1J"):
            node = parse(f"{text} ;")["body"][0]["value"]
            self.assertEqual(place(node), (1, 0, 1, len(text)), text)

    def test_signs_behind_numbers(self):
        self.assert_expressions(
            ("1..real", "Attribute(Constant(Float(1, 0)), 'real')"), ("1 .real", "Attribute(Constant(1), 'real')"),
            ("0x1.real", "Attribute(Constant(1), 'real')"), ("1.5.real", "Attribute(Constant(Float(3, -1)), 'real')"),
            ("1j.imag", "Attribute(Constant(Imaginary(Float(1, 0))), 'imag')"),
            ("1e1.a", "Attribute(Constant(Float(5, 1)), 'a')"),
            ("0xe+1", "BinOp(Constant(14), Add, Constant(1))"), ("1-1", "BinOp(Constant(1), Sub, Constant(1))"),
            ("1 if 2 else 3", "IfExp(Constant(2), Constant(1), Constant(3))"),
            ("(1)if(2)else 3", "IfExp(Constant(2), Constant(1), Constant(3))"),
        )
        self.assert_refused(("1 2", 1, 2), ("0x1.5", 1, 3), ("1 .5", 1, 2), ("a 1e", 1, 2), ("1.5.5", 1, 3),
            ("1....a", 1, 2))


class StringsTest(TextTest):
    def test_prefixes_and_quotes(self):
        for quote in ("'", '"', "'''", '"""'):
            for prefix in ("", "r", "R"):
                self.assertEqual(expression(f"{prefix}{quote}abc{quote}"), "Constant('abc')")
            for prefix in ("b", "B", "br", "bR", "Br", "BR", "rb", "rB", "Rb", "RB"):
                self.assertEqual(expression(f"{prefix}{quote}abc{quote}"), "Constant(b'abc')")
            self.assertEqual(expression(quote * 2), "Constant('')")

    def test_what_is_no_prefix(self):
        self.assert_refused(("u'a'", 1, 1), ("bb'a'", 1, 2), ("rr'a'", 1, 2), ("xb'a'", 1, 2), ("bf'a'", 1, 2),
            ("fb'a'", 1, 2),
                            ("rbr'a'", 1, 3), ("a.b'c'", 1, 2), ("r 'a'", 1, 2), ("_r'a'", 1, 2), ("None'a'", 1, 4),
                            ("1'a'", 1, 1))
        self.assert_expressions(("not'a'", "UnaryOp(Not, Constant('a'))"),
            ("'a'if b else c", "IfExp(Name('b'), Constant('a'), Name('c'))"))

    def test_triple_quotes(self):
        self.assert_expressions(
            ("'''a'b''c'''", "Constant(\"a'b''c\")"), ("'''a\nb'''", "Constant('a\\nb')"),
            ('"""a"b""c"""', "Constant('a\"b\"\"c')"),
            ("''''a'''", "Constant(\"'a\")"), ("'''\n'''", "Constant('\\n')"), ("'''a\\''''", "Constant(\"a'\")"),
            ("'' ''", "Constant('')"),
            ("''\"\"\"a\"\"\"", "Constant('a')"), ("'''a # b'''", "Constant('a # b')"),
        )
        self.assert_refused(("'''a'", 1, 5), ("''''", 1, 4), ("'''a''''", 1, 8), ("'''\n\n", 3, 0), ("'''", 1, 3))

    def test_escapes(self):
        self.assert_expressions(
            (r"'\\\'\"\n\t'", "Constant('\\\\\\'\"\\n\\t')"), ("'a\\\nb'", "Constant('ab')"),
            (r"'\x41\x7e\x0a\x09'", "Constant('A~\\n\\t')"),
            (r"'\x4F\x4f'", "Constant('OO')"), (r"'\101\1012'", "Constant('AA2')"),
            (r"'\12\11'", "Constant('\\n\\t')"),
            (r"'\40\60x\778'", "Constant(' 0x?8')"), ("'''\\\n'''", "Constant('')"), (r"'\47'", 'Constant("\'")'),
        )

    def test_escapes_with_b(self):
        self.assert_expressions(
            (r"b'\a\b\f\v\r'", r"Constant(b'\x07\x08\x0c\x0b\r')"),
            (r"b'\x00\xff\377\0\45'", r"Constant(b'\x00\xff\xff\x00" + chr(37) + "')"),
            (r"b'\\\'\"\n\t'", "Constant(b'\\\\\\'\"\\n\\t')"), ("b'a\\\nb'", "Constant(b'ab')"),
            ("b'''a\n'''", r"Constant(b'a\n')"),
            (r"b'\1234'", r"Constant(b'S4')"), (r"b'\x25'", "Constant(b'" + chr(37) + "')"),
        )

    def test_raw_strings(self):
        self.assert_expressions(
            (r"r'\n'", r"Constant('\\n')"), (r"r'\''", "Constant(\"\\\\'\")"), (r"r'\\'", r"Constant('\\\\')"),
            ("r'a\\\nb'", r"Constant('a\\\nb')"),
            (r"rb'\x'", r"Constant(b'\\x')"), (r"r'\"'", "Constant('\\\\\"')"),
            (r"br'\q\''", r'''Constant(b"\\q\\'")'''),
            (r"r'''\''''", "Constant(\"\\\\'\")"), (r"r'\x4'", r"Constant('\\x4')"),
        )

    def test_what_is_refused_in_strings(self):
        self.assert_refused(
            (r"'a\q'", 1, 2), (r"'\8'", 1, 1), (r"'\x4'", 1, 1), (r"'\x4g'", 1, 1), (r"'\xg4'", 1, 1),
            (r"'\x'", 1, 1), (r"'\u0041'", 1, 1),
            (r"'\N{A}'", 1, 1), (r"'\a'", 1, 1), (r"'\b'", 1, 1), (r"'\f'", 1, 1), (r"'\v'", 1, 1), (r"'\r'", 1, 1),
            (r"b'\q'", 1, 2),
            (r"b'\u0041'", 1, 2), (r"b'a\N'", 1, 3), (r"'\U00000041'", 1, 1), (r"'\ '", 1, 1), (r"'ab\c\d'", 1, 3),
            (r"'''\q'''", 1, 3),
            ("'''\n\\q'''", 2, 0), ("a = 'b\\q' +", 1, 6), (r"'\9'", 1, 1), (r"'\X41'", 1, 1),
            ("'a\n'", 1, 2), ("'a", 1, 2), ("'", 1, 1), ("b'a\nb'", 1, 3), ("r'a\n'", 1, 3), ('"a\n', 1, 2),
            ("'a\\\nb\nc'", 2, 1),
            ("rb'\\\n\n'", 2, 0), ("r'a\\", 1, 4), ("r'a\\'", 1, 5), ("'a\\'", 1, 4),
        )

    def test_escapes_that_the_end_breaks_off(self):
        for text in ("'\\", "'\\x", "'\\x4", "'\\x41", "'\\1", "'\\10", "'\\101", "b'\\", "b'\\x", "b'\\xf", "r'\\",
            "rb'\\", "'''\\", "'''\\x4", "'\\n"):
            self.assertEqual(refused(text), (1, len(text)), text)
        self.assert_refused(("'\\q", 1, 1), ("'\\xg", 1, 1), ("'\\8", 1, 1), ("'\\\n", 2, 0), ("r'\\\n", 2, 0),
            ("'''\n\\", 2, 1), ("'\\x4g", 1, 1))

    def test_strings_that_cannot_stand_where_they_begin(self):
        self.assert_refused(
            ("a 'b\\q'", 1, 2), ("a 'b", 1, 2), ("a 'b\n'", 1, 2), ("def 'a", 1, 4), ("a.'b", 1, 2),
            ("global 'a'", 1, 7), ("a f'{", 1, 2),
            ("a = b 'c\\q", 1, 6), ("(a) '''\n", 1, 4), ("1 'a", 1, 2), ("if a 'b", 1, 5), ("a r'b", 1, 2),
            ("import 'a'", 1, 7),
        )

    def test_strings_side_by_side(self):
        self.assert_expressions(
            ("'a' 'b'", "Constant('ab')"), ("'a''b'", "Constant('ab')"), ("'a'\"b\"r'\\c'", "Constant('ab\\\\c')"),
            ("b'a' rb'\\b'", r"Constant(b'a\\b')"),
            ("('a' # c\n\n  'b')", "Constant('ab')"), ("'a' \\\n 'b'", "Constant('ab')"),
            ("'' 'a' ''", "Constant('a')"), ("b'' B''", "Constant(b'')"),
            ("'a' 'b'.c", "Attribute(Constant('ab'), 'c')"),
        )
        self.assertEqual(statements("'a'\n'b'"), "Expr(Constant('a')), Expr(Constant('b'))")
        self.assert_refused(
            ("'a' b'b'", 1, 4), ("b'a' 'b'", 1, 5), ("b'a' f'b'", 1, 5), ("f'a' b'b'", 1, 5), ("'a' 'b' rb'c", 1, 8),
            ("b'a' 'b\\q'", 1, 5),
            ("('a'\nb'\\q')", 2, 0), ("b'a' b'b' f'{", 1, 10), ("'a' 'b\\q'", 1, 6), ("f'a' 'b\n", 1, 7),
            ("'' b''", 1, 3),
        )

    def test_places_of_strings(self):
        for text in ("'a'", "'a' 'b'", "('a'\n'b')", "b'a' b'''\n'''", "'''a\nb'''", "'a\\\nb'"):
            node = parse(text)["body"][0]["value"]
            self.assertEqual(segment(text, node), text.strip("()"))
        self.assertEqual(place(parse("'''a\n\nb''' 'c'")["body"][0]["value"]), (1, 0, 3, 8))


if __name__ == "__main__":
    unittest.main()
