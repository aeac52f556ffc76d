"""How trees are written: DOC.md [34] to [37]."""

import unittest

from treequill.nodes import Node
from treequill.reading import parse
from treequill.values import Float, Imaginary, Octets
from treequill.writing import unparse

from helping import difference, needless_brackets, read_again
from maker import Maker

# The block of DOC.md [34], as it stands there.
EXAMPLES = """
    a = b = c    a += b    a: b    a: b = c    return    return a    del a, b    raise a from b    assert a, b
    import a.b as c, d    from ..a import b as c, d    from . import *    global a, b    pass
    if a:    while a:    for a in b:    async for a in b:    with a as b, c:    try:    except a as b:    except:
    def f(a, /, b: c, d=1, *e, f, g: h=2, **i) -> j:    async def f():    class A:    class A(b, *c, d=e, **f):
    @a    match a:    case a if b:
    a or b    not a    a < b is not c    a + b    -a    ~a    a ** b    a if b else c    lambda: a    lambda a, *, b=1: c
    {a: b, **c}    {}    {a, b}    [a, b]    []    (a, b)    (a,)    ()    a, b    a,    *a, b    a := b
    [a for b in c if d if e async for f in g]    {a: b for c in d}    {a for b in c}    (a for b in c)
    f(a, *b, c=d, **e)    f(a for b in c)    a.b    a[b]    a[b:c, ::d]    a[b:]    a[:b]    a[b,]    a[*b]    a[:]    *a,    (*a,)    await a    yield    yield a    yield from a
    a | b as c    [a, *b, _]    {'a': b, **c}    A(b, c=d)    a.b    -1    1 + 2j    None    (in patterns)
"""
LINES = [line.split("    ") for line in EXAMPLES.replace("    (in patterns)", "").strip().replace("\n    ",
    "\n").split("\n")]
SIMPLE, IMPORTS, BLOCKS, DEFINITIONS, CASES, *EXPRESSIONS, PATTERNS = LINES

# An expression of each rank, by its text.
SAMPLES = {
    "a, b": ("Tuple", 0), "yield": ("Yield", 0), "yield c": ("Yield", 0), "yield from c": ("YieldFrom", 0),
    "a := b": ("NamedExpr", 1), "lambda: a": ("Lambda", 2), "a if b else c": ("IfExp", 2), "a or b": ("BoolOp", 4),
    "a and b": ("BoolOp", 5), "not a": ("UnaryOp", 6), "a < b": ("Compare", 7), "a | b": ("BinOp", 8),
    "a ^ b": ("BinOp", 9), "a & b": ("BinOp", 10),
    "a << b": ("BinOp", 11), "a >> b": ("BinOp", 11), "a + b": ("BinOp", 12), "a - b": ("BinOp", 12),
    "a * b": ("BinOp", 13), "a @ b": ("BinOp", 13), "a / b": ("BinOp", 13), "a // b": ("BinOp", 13),
    "-a": ("UnaryOp", 14), "~a": ("UnaryOp", 14), "+a": ("UnaryOp", 14), "a ** b": ("BinOp", 15),
    "await a": ("Await", 16), "a": ("Name", 17), "a.b": ("Attribute", 17),
    "a[b]": ("Subscript", 17), "[a, b]": ("List", 17), "{a}": ("Set", 17), "()": ("Tuple", 17),
    "'a'": ("Constant", 17), "f'a'": ("JoinedStr", 17), "(a for b in c)": ("GeneratorExp", 17), "f(a)": ("Call", 17),
    "None": ("Constant", 17), "{a: b}": ("Dict", 17),
}
NAMED = ("NamedExpr",)
LISTING = ("NamedExpr", "Yield", "YieldFrom")
YIELDS = ("Yield", "YieldFrom")
# Texts with X for an expression, the rank that its place wants, and the kinds that have brackets there anyway.
PLACES = [
    (0, NAMED, ["x = X", "x += X", "x: y = X", "X", "x = y = X"]),
    (0, LISTING, ["return X", "yield X", "x = yield X", "for x in X:\n    pass", "async for x in X:\n    pass"]),
    (0, YIELDS, ["x[X]", "match X:\n    case _:\n        pass"]),
    (1, (), ["if X:\n    pass", "if x:\n    pass\nelif X:\n    pass", "while X:\n    pass", "[X]", "[x, X]", "{X}",
    "{x, X}", "x((X, y), z)", "(X,), x", "f(x, X)", "class A(x, X):\n    pass", "[X for x in y]", "{X for x in y}",
    "(X for x in y)", "@X\ndef f():\n    pass", "@X\nclass A:\n    pass", "match x:\n    case _ if X:\n        pass",
    "x[X, y]", "x[y, X]", "match X, y:\n    case _:\n        pass"]),
    (2, (), ["X, x", "x, X", "x = X, y", "return X, y", "for x in X, y:\n    pass", "lambda: X", "lambda x=X: y",
    "lambda *, x=X: y", "x if y else X", "f(x=X)", "f(**X)", "{X: x}", "{x: X}", "{X: x for x in y}",
    "{x: X for x in y}", "x[X:]", "x[:X]", "x[::X]", "x[X:, y]", "(x := X)", "assert X", "assert x, X", "raise X",
    "raise x from X", "x: X", "def f(x: X):\n    pass", "def f(x=X):\n    pass", "def f(x: y=X):\n    pass",
    "def f() -> X:\n    pass",
             "with X as y:\n    pass", "with X, y:\n    pass", "with x, X:\n    pass",
             "try:\n    pass\nexcept X:\n    pass", "try:\n    pass\nexcept X as y:\n    pass", "yield from X",
             "f(*X)", "f(x, *X)", "class A(*X):\n    pass", "class A(x=X):\n    pass", "class A(**X):\n    pass",
             "x[*X]", "x[*X, y]", "def f(*x: X):\n    pass", "def f(*, x=X):\n    pass"]),
    (4, (), ["X if x else y", "x if X else y", "[x for y in X]", "[x for y in z if X]", "[x for y in z if X if x]"]),
    (5, (), ["X or x", "x or X", "x or X or y"]),
    (6, (), ["X and x", "x and X", "not X"]),
    (8, (), ["X < x", "x < X", "x is not X in y", "*X, y", "[*X]", "{*X, x}", "x = *X, y", "{**X}", "{x: y, **X}",
    "match *X, y:\n    case _:\n        pass", "return *X, y", "for x in *X, y:\n    pass", "yield *X, y"]),
    (14, (), ["-X", "+X", "~X"]),
    (17, (), ["X.x", "X[x]", "X(x)", "await X", "X(x).y"]),
    (16, (), ["X ** x"]),
    (14, (), ["x ** X"]),
]
for SIGN, OWN in (("|", 8), ("^", 9), ("&", 10), ("<<", 11), (">>", 11), ("+", 12), ("-", 12), ("*", 13), ("@", 13),
    ("/", 13), ("//", 13)):
    PLACES += [(OWN, (), [f"X {SIGN} x"]), (OWN + 1, (), [f"x {SIGN} X"])]


class WritingTest(unittest.TestCase):
    def assert_stays(self, *texts, mode="exec"):
        """Check that texts are written as they stand, and that none of their brackets can be left out."""
        for text in texts:
            tree = parse(text, mode)
            self.assertEqual(unparse(tree), text)
            self.assertEqual(needless_brackets(text, tree), [], text)

    def assert_written(self, *rows):
        for text, wanted in rows:
            tree = parse(text)
            self.assertEqual(unparse(tree), wanted, text)
            self.assertIsNone(difference(parse(wanted), tree), text)


class ExamplesTest(WritingTest):
    def test_all_examples_are_there(self):
        self.assertEqual([len(line) for line in LINES], [9, 5, 8, 4, 3, 10, 12, 4, 16, 8])

    def test_simple_statements(self):
        self.assert_stays(*SIMPLE, *IMPORTS)

    def test_heads(self):
        for head in BLOCKS + DEFINITIONS:
            if head == "try:":
                self.assert_stays("try:\n    a\nfinally:\n    b")
            elif head.startswith("except"):
                self.assert_stays(f"try:\n    x\n{head}\n    y")
            else:
                self.assert_stays(f"{head}\n    x")
        decorator, match, case = CASES
        self.assert_stays(f"{decorator}\ndef f():\n    pass", f"{match}\n    {case}\n        x")

    def test_expressions(self):
        for line in EXPRESSIONS:
            for text in line:
                if text == "a := b":
                    self.assert_stays(f"if {text}:\n    x", f"({text})", f"[{text}]")
                elif text in ("(a, b)", "(a,)", "(*a,)"):
                    self.assert_stays(f"[{text}]")
                else:
                    self.assert_stays(text)
                    self.assertEqual(unparse(parse(text)["body"][0]), text)

    def test_patterns(self):
        for text in PATTERNS:
            wanted = "a, *b, _" if text == "[a, *b, _]" else text
            self.assert_written((f"match x:\n case {text}: y", f"match x:\n    case {wanted}:\n        y"))
            self.assert_stays(f"match x:\n    case A({text}):\n        y", f"match x:\n    case {wanted}:\n        y")


class LayoutTest(WritingTest):
    def test_lines_and_blocks(self):
        self.assert_written(
            ("", ""), ("\n# a\n", ""), ("a;b\n\n\nc", "a\nb\nc"), ("if a: b; c", "if a:\n    b\n    c"),
            ("if a: b\nelse:\n if c: d", "if a:\n    b\nelif c:\n    d"),
            ("if a: b\nelif c: d\nelse: e", "if a:\n    b\nelif c:\n    d\nelse:\n    e"),
            ("if a: b\nelse:\n if c: d\n e", "if a:\n    b\nelse:\n    if c:\n        d\n    e"),
            ("if a: b\nelse:\n while c: d", "if a:\n    b\nelse:\n    while c:\n        d"),
            ("while a: b\nelse: c", "while a:\n    b\nelse:\n    c"),
            ("for a in b: c\nelse: d", "for a in b:\n    c\nelse:\n    d"),
            ("async for a, in b,: c\nelse:d", "async for a, in b,:\n    c\nelse:\n    d"),
            ("try: a\nexcept b: c\nexcept: d\nelse: e\nfinally: f",
            "try:\n    a\nexcept b:\n    c\nexcept:\n    d\nelse:\n    e\nfinally:\n    f"),
            ("@a\n@(b)\nclass C: d", "@a\n@b\nclass C:\n    d"),
            ("match a:\n case b: c\n case d if e:\n  f;g",
            "match a:\n    case b:\n        c\n    case d if e:\n        f\n        g"),
            ("def f():\n def g():\n  if a: b\n return",
            "def f():\n    def g():\n        if a:\n            b\n    return"),
            ("if a:\n if b: c\n elif d: e\nelif f: g",
            "if a:\n    if b:\n        c\n    elif d:\n        e\nelif f:\n    g"),
            ("class A( ): a", "class A:\n    a"), ("async with (a as b, c): d", "async with a as b, c:\n    d"),
            ("'a'\n'b'", "'a'\n'b'"),
            ("@a\nasync def f(): b", "@a\nasync def f():\n    b"),
            ("try: a\nfinally:\n try: b\n finally: c",
            "try:\n    a\nfinally:\n    try:\n        b\n    finally:\n        c"),
            ("if a: b\nelif c: d\nelif e: f\nelse:\n if g: h\n else: i",
            "if a:\n    b\nelif c:\n    d\nelif e:\n    f\nelif g:\n    h\nelse:\n    i"),
        )

    def test_parts_of_nodes(self):
        self.assert_written(
            ("import  a . b", "import a.b"), ("from . . . import(a,b as c,)", "from ... import a, b as c"),
            ("from ....a import b", "from ....a import b"), ("global a ,b", "global a, b"),
            ("nonlocal a", "nonlocal a"), ("nonlocal a ,b", "nonlocal a, b"), ("raise", "raise"),
            ("raise(a)", "raise a"), ("assert(a)", "assert a"),
            ("del(a)", "del a"), ("a=b=c", "a = b = c"), ("a:b=c", "a: b = c"), ("x= yield", "x = yield"),
            ("break;continue", "break\ncontinue"),
            ("f(a=1,*b)", "f(*b, a=1)"), ("f(a, **b, c=d)", "f(a, **b, c=d)"),
            ("class A(b=1, *c): d", "class A(*c, b=1):\n    d"),
            ("lambda a,b=1,/,c=2,*d,e,f=3,**g:h", "lambda a, b=1, /, c=2, *d, e, f=3, **g: h"),
            ("lambda*a:b", "lambda *a: b"), ("lambda **a:b", "lambda **a: b"), ("lambda a,/:b", "lambda a, /: b"),
            ("def f(*,a:b=c): d", "def f(*, a: b=c):\n    d"),
            ("def f(a,/,*b:c,**d:e)->f: g", "def f(a, /, *b: c, **d: e) -> f:\n    g"),
            ("def f(a=1,/,b=2): c", "def f(a=1, /, b=2):\n    c"), ("a if(b)else(c)", "a if b else c"),
            ("(a)<(b)not in(c)", "a < b not in c"), ("a[ b : c : d ]", "a[b:c:d]"), ("a[::]", "a[:]"),
            ("a[b::c]", "a[b::c]"), ("a[:,]", "a[:,]"), ("a[b:c,]", "a[b:c,]"), ("a[*b,]", "a[*b]"),
            ("a[*b,c]", "a[*b, c]"), ("a[()]", "a[()]"), ("a[(b,c)]", "a[b, c]"), ("a[(b,)]", "a[b,]"),
            ("a[((b, c), d)]", "a[(b, c), d]"),
            ("f((a for b in c))", "f(a for b in c)"), ("f((a for b in c), d)", "f((a for b in c), d)"),
            ("f((a for b in c), d=e)", "f((a for b in c), d=e)"), ("f(*(a for b in c))", "f(*(a for b in c))"),
            ("class A((a for b in c)): d", "class A((a for b in c)):\n    d"),
            ("f(a)(b for c in d)(e)", "f(a)(b for c in d)(e)"), ("{**a,b:c}", "{**a, b: c}"), ("{a : b}", "{a: b}"),
            ("[a for(b)in(c)]", "[a for b in c]"), ("{a:b async for c in d}", "{a: b async for c in d}"),
            ("a . b", "a.b"), ("- a", "-a"), ("-(-a)", "--a"), ("+-~a", "+-~a"), ("not(not a)", "not not a"),
            ("a-(-b)", "a - -b"), ("(await a)", "await a"), ("a**-b", "a ** -b"), ("a //b", "a // b"),
            ("a@b", "a @ b"), ("a<<b>>c", "a << b >> c"), ("yield a,b", "yield a, b"), ("await(a)(b)", "await a(b)"),
            ("a.b.c(d)[e]", "a.b.c(d)[e]"), ("...", "..."), ("*a,b", "*a, b"), ("...  . a", "....a"),
        )
        for kind, sign in (("Add", "+"), ("Sub", "-"), ("Mult", "*"), ("MatMult", "@"), ("Div", "/"),
            ("FloorDiv", "//"), ("Pow", "**"), ("LShift", "<<"), ("RShift", ">>"), ("BitOr", "|"), ("BitXor", "^"),
            ("BitAnd", "&")):
            self.assert_stays(f"a {sign} b", f"a {sign}= b")
            self.assertEqual(parse(f"a {sign} b")["body"][0]["value"]["op"].kind, kind)
        self.assert_stays(*[f"a {sign} b" for sign in ("==", "!=", "<", "<=", ">", ">=", "is", "is not", "in",
            "not in", "and", "or")])

    def test_statements_and_expressions_by_themselves(self):
        self.assertEqual(unparse(parse("if a: b\nelse: c")["body"][0]), "if a:\n    b\nelse:\n    c")
        self.assertEqual(unparse(Node("Name", "a")), "a")
        self.assertEqual(unparse(Node("Expression", Node("Name", "a"))), "a")
        self.assertEqual(unparse(Node("Pass")), "pass")
        self.assertEqual(unparse(Node("Module", [Node("Pass"), Node("Pass")])), "pass\npass")
        self.assertEqual(unparse(Node("Module")), "")


class BracketsTest(WritingTest):
    def test_every_place_with_every_rank(self):
        for wanted, barred, texts in PLACES:
            for text in texts:
                for sample, (kind, rank) in SAMPLES.items():
                    if kind == "GeneratorExp" and text in ("X(x)", "f(x, X)"):
                        continue
                    tree = parse(text.replace("X", f"({sample})"))
                    brackets = rank < wanted or kind in barred
                    self.assertEqual(unparse(tree), text.replace("X", f"({sample})" if brackets else sample),
                        (text, sample))

    def test_brackets_cannot_be_left_out(self):
        for wanted, barred, texts in PLACES:
            for text in texts[:6]:
                for sample in SAMPLES:
                    tree = parse(text.replace("X", f"({sample})"))
                    written = unparse(tree)
                    self.assertEqual(needless_brackets(written, tree), [], written)

    def test_body_of_an_expression(self):
        for sample, (kind, rank) in SAMPLES.items():
            wanted = f"({sample})" if kind in LISTING else sample
            tree = parse(f"({sample})", "eval")
            self.assertEqual(unparse(tree), wanted)
            self.assertEqual(unparse(tree["body"]), wanted)
        self.assert_stays("(*a, b)", "(a, *b)", "(*a,)", "a, b", "a,", "(a := b), c", "[*a]", mode="eval")
        self.assertEqual(unparse(parse("(*a, b)")), "*a, b")
        self.assertEqual(unparse(parse("(*a, b := c)", "eval")), "(*a, b := c)")

    def test_targets(self):
        self.assert_stays(
            "a, b = c", "a, = b", "*a, b = c", "a, b = c, d = e", "[a, (b, c)] = d", "(a, b), c = d",
            "*(a, b), c = d", "(), [] = a", "() = a", "[] = a", "a.b, c[d] = e", "for a, b in c:\n    pass",
            "for a, in b:\n    pass", "for (a, b), c in d:\n    pass", "for *a, b in c:\n    pass",
            "[a for b, c in d]", "[a for b, in c]", "[a for (b, c), d in e]", "del a, b", "del (a, b)",
            "del (a,), [b]", "del ()", "del ((a, b), c)",
            "with a as (b, c):\n    pass", "with a as (b,), c:\n    pass", "with a as ():\n    pass",
            "with a as [b, (c, d)]:\n    pass", "*[a], b = c", "[*a] = b", "for () in a:\n    pass",
            "with a as (b, *c):\n    pass", "(a or b).c = d", "(a, b)[c] = d", "del (a + b).c",
        )
        self.assert_written(("(a, b) = c", "a, b = c"), ("for (a, b) in c: d", "for a, b in c:\n    d"),
            ("[a for (b, c) in d]", "[a for b, c in d]"), ("(a) = b", "a = b"), ("(a.b) += c", "a.b += c"),
            ("with a as (b): c", "with a as b:\n    c"), ("[(a), (b)] = c", "[a, b] = c"))

    def test_annotations(self):
        self.assert_stays("a: b", "(a): b", "a.b: c", "a[b]: c", "(a): b = c", "a: b = c, d", "a: b = yield c",
            "(a + b).c: d", "a: lambda: b", "a: (b, c)")
        self.assert_written(("((a)): b", "(a): b"), ("(a.b): c", "a.b: c"), ("(a[b]): c = (d, e)", "a[b]: c = d, e"))

    def test_items_of_with(self):
        self.assert_stays(
            "with ((a, b)):\n    pass", "with ((a,)):\n    pass", "with (a, b) as c:\n    pass",
            "with (a, b), c:\n    pass", "with c, (a, b):\n    pass", "with (*a, b):\n    pass",
            "with (a := b, c):\n    pass", "with (a, b := c):\n    pass", "with ():\n    pass",
            "with (a := b):\n    pass", "with (yield):\n    pass", "with a:\n    pass",
            "with ((a, (yield))):\n    pass", "with (a for b in c):\n    pass", "with (a, b).c:\n    pass",
            "with lambda: a:\n    pass",
            "async with ((a, b)):\n    pass", "with a, b:\n    pass", "with (a := b), c:\n    pass",
            "with (a, (b, c)) as d:\n    pass", "with ((a, (b, c))):\n    pass", "with (a, b)[c]:\n    pass",
            "with (a, *b):\n    pass", "with (yield a), b:\n    pass", "with a if b else c:\n    pass",
        )
        self.assert_written(("with (a, b): c", "with a, b:\n    c"), ("with (a): b", "with a:\n    b"),
            ("with (a as b): c", "with a as b:\n    c"))

    def test_lambdas_in_fields(self):
        self.assert_stays("f'{(lambda: a)}'", "f'{a if b else (lambda: c)}'", "f'{a, (lambda: b)}'",
            "f'{yield (lambda: a)}'", "f'{yield from (lambda: a)}'", "f'{[lambda: a]}'", "f'{f(lambda: a)}'",
            "f'{a[lambda: b]}'", "f'{(a, lambda: b)[c]}'", "f'{(a if b else lambda: c).d}'", "f'{(lambda: a) + b}'",
            "f'{a:{(lambda: b)}}'", "f'{f(a if b else lambda: c)}'", "f'{yield a if b else (lambda: c)}'",
            "f'{a if b else c if d else (lambda: e)}'",
                          "f'{(a := lambda: b)}'", "f'{(lambda: lambda: a)}'", "f'{(lambda: a if b else lambda: c)}'",
                          "f'{yield a, (lambda: b)}'", "f'{(yield lambda: a).b}'", "f'{(lambda: f'{(lambda: a)}')}'",
                          "f'{ {lambda: a}}'", "f'{(lambda: a) if b else c}'", "f'{*a, (lambda: b)}'",
                          "f'{(a, lambda: b), (lambda: c)}'")

    def test_fields(self):
        self.assert_stays("f'{a}'", "f'{a, b}'", "f'{a,}'", "f'{*a,}'", "f'{yield}'", "f'{yield a}'", "f'{(a := b)}'",
            "f'{a if b else c}'", "f'{a or b}'", "f'{ {a}}'", "f'{ {a: b}}'", "f'{ {a: b}!r}'", "f'{ {a}.b}'",
            "f'{a:{ {b}}}'", "f'{ {}, a}'", "f'{(yield), a}'", "f'{a != b!r:c}'", "f'{[{a}]}'",
            "f'{ {a for b in c}}'", "f'{ {a} | b}'", "f'{-a}'", "f'{a[b:c]:d}'", "f'{a, (b := c)}'", "f'{a:{b, c}}'",
            "f'{a:{(b := c)}}'")

    def test_numbers_with_attributes(self):
        self.assert_stays("1 .a", "1.5.a", "1j.a", "1e+16.a", "1e309.a", "0 .a.b", "True.a", "'a'.b", "1 .a[b]",
            "(-1).a", "1[a]", "1(a)", "0.0.a", "f'a'.b", "1e309j.a")
        self.assert_written(("1. .a", "1.0.a"), ("0x10.a", "16 .a"), ("(1).a", "1 .a"))

    def test_one_pair_is_enough(self):
        self.assert_written(("((a, b)), c", "(a, b), c"), ("(((a)))", "a"), ("((a) + (b)) * (c)", "(a + b) * c"),
            ("(a ** b) ** c", "(a ** b) ** c"), ("a ** (b ** c)", "a ** b ** c"), ("(-a) ** b", "(-a) ** b"),
            ("-(a ** b)", "-a ** b"), ("a - (b - c)", "a - (b - c)"), ("(a - b) - c", "a - b - c"),
            ("(a or b) or c", "(a or b) or c"), ("a or (b and c)", "a or b and c"), ("(a < b) < c", "(a < b) < c"),
            ("a < (b < c)", "a < (b < c)"),
                            ("not (a or b)", "not (a or b)"), ("not (a < b)", "not a < b"),
                            ("(not a) < b", "(not a) < b"), ("(await a) ** b", "await a ** b"),
                            ("await (a ** b)", "await (a ** b)"), ("await (await a)", "await (await a)"),
                            ("(lambda: a)()", "(lambda: a)()"), ("(yield)", "yield"), ("a = (yield)", "a = yield"),
                            ("return (yield)", "return (yield)"), ("(a if b else c) if d else e",
                            "(a if b else c) if d else e"), ("a if (b if c else d) else e",
                            "a if (b if c else d) else e"),
                            ("a if b else (c if d else e)", "a if b else c if d else e"),
                            ("lambda: (a, b)", "lambda: (a, b)"), ("lambda: (lambda: a)", "lambda: lambda: a"),
                            ("[a for b in (c if d else e)]", "[a for b in (c if d else e)]"),
                            ("[a for b in c if (lambda: d)]", "[a for b in c if (lambda: d)]"),
                            ("{**(a or b)}", "{**(a or b)}"), ("f(*(a or b))", "f(*a or b)"),
                            ("[*(a or b)]", "[*(a or b)]"), ("a[(b := c)]", "a[b := c]"),
                            ("f((a := b))", "f(a := b)"), ("f(a=(b := c))", "f(a=(b := c))"),
                            ("a[(b := c):]", "a[(b := c):]"),
                            ("match (a := b):\n case c: d", "match a := b:\n    case c:\n        d"),
                            ("match (a, b):\n case c: d", "match a, b:\n    case c:\n        d"),
                            ("match (*a,):\n case c: d", "match *a,:\n    case c:\n        d"),
                            ("match ((yield)):\n case c: d", "match (yield):\n    case c:\n        d"),
                            ("match ((a := b), c):\n case d: e", "match a := b, c:\n    case d:\n        e"),
                            ("for a in (b, *c): d", "for a in b, *c:\n    d"), ("return (*a, b)", "return *a, b"),
                            ("return (a := b)", "return (a := b)"), ("x = (a, (b, c))", "x = a, (b, c)"))


class PatternsTest(WritingTest):
    def assert_patterns(self, *rows):
        for text, wanted in rows:
            self.assert_written((f"match x:\n case {text}: y", f"match x:\n    case {wanted}:\n        y"))
            self.assert_stays(f"match x:\n    case {wanted}:\n        y")

    def test_brackets(self):
        self.assert_patterns(
            ("(a | b) | c", "(a | b) | c"), ("a | (b as c)", "a | (b as c)"), ("(a as b) as c", "(a as b) as c"),
            ("(a | b) as c", "a | b as c"), ("[(a as b)]", "a as b,"), ("[a as b, (c | d)]", "a as b, c | d"),
            ("A((a as b), c=(d as e))", "A(a as b, c=d as e)"), ("{'a': (b as c)}", "{'a': b as c}"), ("(a)", "a"),
            ("(_)", "_"), ("((a | _))", "a | _"), ("(a | b) | (c as d)", "(a | b) | (c as d)"),
            ("A((a | b))", "A(a | b)"), ("(a | (b | c)) as d", "a | (b | c) as d"),
            ("[[a | b] | c]", "[a | b] | c,"), ("a | (_ as b)", "a | (_ as b)"),
        )

    def test_sequences(self):
        self.assert_patterns(("[a, b]", "a, b"), ("(a, b)", "a, b"), ("a,", "a,"), ("[a]", "a,"), ("*a,", "*a,"),
            ("[*_]", "*_,"), ("[]", "[]"), ("()", "[]"), ("[[a, b], []]", "[a, b], []"), ("((a,),)", "[a],"),
            ("(a, b) as c", "[a, b] as c"), ("(a, b) | c", "[a, b] | c"), ("A((a, b))", "A([a, b])"),
            ("{'a': (b,)}", "{'a': [b]}"), ("a, *b, c", "a, *b, c"))

    def test_values(self):
        self.assert_patterns(("-1", "-1"), ("- 1.5", "-1.5"), ("1+2j", "1 + 2j"), ("-1 -2j", "-1 - 2j"),
            ("'a' 'b'", "'ab'"), ("b'a'", "b'a'"), ("None", "None"), ("True", "True"), ("a . b . c", "a.b.c"),
            ("0x10", "16"), ("{None: a, -1: b, 1+2j: c, d.e: f}", "{None: a, -1: b, 1 + 2j: c, d.e: f}"),
            ("{**a}", "{**a}"), ("{}", "{}"), ("A()", "A()"), ("a.B(c,)", "a.B(c)"), ("A(b=c)", "A(b=c)"),
            ("{_.a: _}", "{_.a: _}"), ("A(b, _=c)", "A(b, _=c)"), ("-2j", "-2j"),
            ("1e309 + 1e309j", "1e309 + 1e309j"))


class ValuesTest(WritingTest):
    def assert_value(self, value, wanted):
        node = Node("Constant", value)
        self.assertEqual(unparse(node), wanted)
        self.assertIsNone(difference(node, read_again(wanted, node)))

    def test_strings(self):
        for value, wanted in (
            ("", "''"), ("a", "'a'"), ("it's", "\"it's\""), ('"', "'\"'"), ("'\"", "'\\'\"'"), ("\\", "'\\\\'"),
            ("\n\t", "'\\n\\t'"), ("'\\", "\"'\\\\\""), ("{}#", "'{}#'"), ("a\n'", "\"a\\n'\""), ("'''", "\"'''\""),
            ("''' \"", "'\\'\\'\\' \"'"), ("\\n", "'\\\\n'"), (" ~", "' ~'"),
        ):
            self.assert_value(value, wanted)

    def test_octets(self):
        every = "".join("\\n" if number == 10 else "\\t" if number == 9 else "\\r" if number == 13 else f"\\x{number:02x}" if number < 32 or number > 126 or number == 37 else "\\\\" if number == 92 else "\\'" if number == 39 else chr(number) for number in range(256))
        for value, wanted in (
            ((), "b''"), ((97,), "b'a'"), ((39,), "b\"'\""), ((34,), "b'\"'"), ((39, 34), "b'\\'\"'"),
            ((92,), "b'\\\\'"), ((9, 10, 13), "b'\\t\\n\\r'"),
            ((0, 7, 8, 11, 12, 31), "b'\\x00\\x07\\x08\\x0b\\x0c\\x1f'"),
            ((37, 127, 128, 255), "b'\\x25\\x7f\\x80\\xff'"), ((171, 205), "b'\\xab\\xcd'"),
            (tuple(range(256)), f"b'{every}'"), ((39, 10), "b\"'\\n\""),
        ):
            self.assert_value(Octets(value), wanted)

    def test_numbers(self):
        for value, wanted in (
            (0, "0"), (7, "7"), (10 ** 199, "1" + "0" * 199), (Float(0, 0), "0.0"), (Float(1, 0), "1.0"),
            (Float(1, -1), "0.5"), (Float(1, 60), "1.152921504606847e+18"), (Float(1, 1024), "1e309"),
            (Float(1, -1074), "5e-324"), (Imaginary(Float(0, 0)), "0j"), (Imaginary(Float(1, 1)), "2j"),
            (Imaginary(Float(3, -1)), "1.5j"), (Imaginary(Float(1, 1024)), "1e309j"),
            (Imaginary(Float(1, 60)), "1.152921504606847e+18j"), (Imaginary(Float(5, 1)), "10j"),
        ):
            self.assert_value(value, wanted)
        self.assert_value(None, "None")
        self.assert_value(True, "True")
        self.assert_value(False, "False")

    def test_joined_strings(self):
        self.assert_stays("f''", "f'a'", "f'{a}b{c!r}'", "f'{a!s}{a!a}'", "f'{a:b}'", "f'{a:}'", "f'{a!r:b{c}}'",
            "f'{{}}'", "f'{{{a}}}'", "f'\\\\\\n\\t\\''", "f'\"'", "f'{a:{b!r}c{d}}'", "f'{'a'}'", "f'{f'{a}'}'",
            "f'{\"it's\"}'", "f'{'\\n'}'", "f'{a:#x }'", "f'{b'a'}'", "f'{a:{'b'}}'", "f'{f'{a:{b}}':c}'")
        self.assert_written(("f\"it's\"", "f'it\\'s'"), ("'a' f'{b}' 'c'", "f'a{b}c'"),
            ("f'''\n{ a }'''", "f'\\n{a}'"), ("fr'\\d{a}'", "f'\\\\d{a}'"), ("f'{a }' '{}'", "f'{a}{{}}'"),
            ("f'{ a !r }'", "f'{a!r}'"), ("f'{a:{{b}}}'", "f'{a:{ {b}}}'"), ("f'' 'it\\'s'", "f'it\\'s'"),
            ("f\"{a:{'b'}}\"", "f'{a:{'b'}}'"))


class RandomTreesTest(WritingTest):
    def test_what_is_written_is_read_as_an_equal_tree(self):
        maker = Maker(6)
        brackets = 0
        for _ in range(500):
            tree = maker.tree()
            text = unparse(tree)
            again = read_again(text, tree)
            self.assertIsNone(difference(tree, again), text)
            self.assertEqual(unparse(again), text)
            brackets += text.count("(")
            if len(text) < 600:
                self.assertEqual(needless_brackets(text, tree), [], text)
        self.assertGreater(brackets, 1000)


if __name__ == "__main__":
    unittest.main()
