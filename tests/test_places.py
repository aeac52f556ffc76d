"""Places of nodes: DOC.md [31], and [13] for the nodes that parse makes."""

import unittest

from treequill.reading import parse

from helping import difference, nodes_in, place, segment
from table import KINDS

MARKED = (
    "FunctionDef AsyncFunctionDef ClassDef Return Delete Assign AugAssign AnnAssign For AsyncFor While If With AsyncWith Match Raise Assert Try Import ImportFrom Global Nonlocal Expr Pass Break Continue"
    " BoolOp NamedExpr BinOp UnaryOp Lambda IfExp Dict Set ListComp SetComp GeneratorExp DictComp Await Yield YieldFrom Compare Call FormattedValue JoinedStr Constant Attribute Subscript Starred Name List Tuple Slice"
    " ExceptHandler arg keyword alias MatchValue MatchSingleton MatchSequence MatchOr MatchMapping MatchClass MatchStar MatchAs"
).split()

SELF_CONTAINED = (
    "BinOp", "Call", "Lambda", "BoolOp", "Compare", "Await", "Dict", "Set", "ListComp", "SetComp", "DictComp",
    "GeneratorExp",
    "IfExp", "UnaryOp", "Yield", "YieldFrom", "NamedExpr",
)
# For each kind texts in which $ and ?, which no text has elsewhere, tell where one of its nodes begins and ends.
MARKS = {
    "FunctionDef": ["$def f(): a?", "@a\n@b\n$def f():\n  a; b;?\n\n# c\n", "if a:\n  $def f(\n  ): (a)?  # b\nb",
    "$def f():\n  if a:\n    b?\n\n\nc"],
    "AsyncFunctionDef": ["$async def f(): a?", "@a\n$async  def f():\n  a # b\n  (b\n)?\n",
    "a\n$async \\\n def f(): a ;?"],
    "ClassDef": ["$class A: a?", "@a\n$class A(b):\n  c\n  # d\n\n  e?\n\nf", "@(a)\n$class A(): pass;?"],
    "Return": ["$return?", "$return a,?", "$return (a)?; b", "$return (a\n)? # b", "$return a, b,? ; c",
    "if a: $return?;"],
    "Delete": ["$del a?", "$del (a), b,? ;", "if a:\n  $del (a\n)?\n"],
    "Assign": ["$a = b?", "$(a) = (b)? # c", "$a = b = \\\n c,?\n", "$(a) = yield?; b", "$a, = (b,)?"],
    "AugAssign": ["$a += b?", "$(a) += (b\n)?", "$a.b **= yield c,? ; d"],
    "AnnAssign": ["$a: b?", "$(a): b = (c)? # d", "$a[b]: (c)?;", "$a: b = c, d,?"],
    "For": ["$for a in b: c?", "$for a in b:\n  c\nelse:\n  d;?\n\ne", "if a:\n  $for (a) in b: (c)? # d"],
    "AsyncFor": ["$async for a in b: c?", "$async for a in b:\n  c\nelse: d?\ne", "$async  for a, in b: c;?"],
    "While": ["$while a: b?", "$while (a):\n  b\n  # c\n  d?\n# e\nf", "$while a: b\nelse: (c)?"],
    "If": ["$if a: b?", "$if a: b;?\nc", "$if a: b\nelif c: d\nelse:\n  e;  f?\n\n", "$if a:\n  if b:\n    c?\nd",
    "$if a: b\nelif c: d;?"],
    "With": ["$with a: b?", "$with (a as b, c,): d;?", "$with (a) as b:\n  c\n  d?\n"],
    "AsyncWith": ["$async with a: b?", "$async with a as b, c:\n  d ;? # e\n"],
    "Match": ["$match a:\n case b: c?", "$match (a):\n case b: c\n case d:\n  e;?\n\nf"],
    "Raise": ["$raise?", "$raise a?", "$raise (a) from (b)? ; c", "if a: $raise (a\n)?"],
    "Assert": ["$assert a?", "$assert a, (b)?;", "$assert (a\n,)? # b"],
    "Try": ["$try: a\nfinally: b?", "$try:\n  a\nexcept b:\n  c;?\n\nd",
    "$try: a\nexcept: b\nelse: c\nfinally:\n  d?"],
    "Import": ["$import a?", "$import a . b as c, d? ; e"],
    "ImportFrom": ["$from a import b?", "$from . import (a as b,\n c,\n)? # d", "$from .a import *?;"],
    "Global": ["$global a?", "$global a, b? ; c"],
    "Nonlocal": ["$nonlocal a?", "if a: $nonlocal a , b?;"],
    "Expr": ["$a?", "$(a)?", "$(a\n)? # b", "$a,?;", "if a: $(yield)?;", "$yield a?", "$( a )?"],
    "Pass": ["$pass?", "$pass? ;", "if a:\n   $pass?\n"],
    "Break": ["$break?", "while a: $break?;"],
    "Continue": ["$continue?", "while a:\n $continue? # b"],
    "BoolOp": ["$a or b?", "($(a) and (b)?)", "c = $a or b and (c\n)?;", "not ($a and b?)"],
    "NamedExpr": ["($a := b?)", "f($a := (b)?, c)", "if $a := \\\n b?: c"],
    "BinOp": ["$a + b?", "($(a) * (b)?)", "$(a) * (b)? - c", "($a + b?).c", "c = $a ** (\nb)?", "-($a @ b?)",
    "x < $(a + b) - c?"],
    "UnaryOp": ["$-a?", "$not (a)?", "a ** $~ (\nb)?", "($- - a?)", "(a) + $-(a).b?"],
    "Lambda": ["$lambda: a?", "($lambda a, *b: (c)?)", "f(a=$lambda: (b\n)?)", "a = $lambda : b?, c"],
    "IfExp": ["$a if b else c?", "($(a) if b else (c)?)", "[$a if b else c if d else e?]"],
    "Dict": ["${}?", "(${a: b}?)", "a = ${\n a: b, # c\n **d,}?;"],
    "Set": ["${a}?", "(${ *a, b, }?)"],
    "ListComp": ["$[a for b in c]?", "($[(a) for b in c if (d)]?).e"],
    "SetComp": ["${a for b in c}?", "f(${(a) for b in (c\n)}?)"],
    "GeneratorExp": ["$(a for b in c)?", "f$(a for b in c)?", "f$( (a) for b in (c) )?.d", "f($(a for b in c)?)",
    "f($(a for b in c)?, d)", "f (\n$(a for b in c)? )", "(($(a for b in c)?))"],
    "DictComp": ["${a: b for c in d}?", "(${ (a): b async for c in (d) }?)"],
    "Await": ["$await a?", "($await (a)?)", "$await a.b(c)?", "-$await a? ** b"],
    "Yield": ["$yield?", "($yield?)", "a = $yield (b)?;", "($yield a, b,?)", "( $yield (a,)? )"],
    "YieldFrom": ["$yield from a?", "($yield from (a)?)"],
    "Compare": ["$a < b?", "($(a) is not (b)?)", "not $a < b == (c)?"],
    "Call": ["$a()?", "($(a)(b)?)", "$a.b(c)?.d", "$a(b for b in c)?", "$a(\n)? + b", "$(a)(b)? ** c"],
    "FormattedValue": ["f'${a}?'", "f'b${ (a) !r:c}?d'", "'a' f'${\na\n}?{b}'", "f'''\n${a:b}?'''"],
    "JoinedStr": ["$f'a'?", "($'a' f'{b}' 'c'?)", "a = $f'''\n{b}'''\\\n 'c'?", "f($f''?)"],
    "Constant": ["$1?", "($'a' 'b'?)", "($None?)", "$...?.a", "-$1.5?", "($'a' # b\n  'c'?)", "$b'''\n'''? + c",
    "$'''a\nb''' 'c'?"],
    "Attribute": ["$a.b?", "($(a).b?)", "$(a + b) . c?(d)", "$a.b?[c]", "$1 .a?", "-$a.\\\nb?", "del ($(a).b?)"],
    "Subscript": ["$a[b]?", "($(a)[b,]?)", "$a[b]?.c", "$(a)[\nb]?(c)"],
    "Starred": ["f($*a?)", "$*a?, b", "[$*(a)?]", "($* a | (b)?,)", "a[$*(b)?]", "for $*a?, b in c: d",
    "f(a, $* b or (c)?, d)", "a, $*(b)? = c"],
    "Name": ["$a?", "($a?)", "( ( $a?\n))", "$a?, b", "'b'[1:$a?]", "if $a?: b", "lambda b: $a?"],
    "List": ["$[]?", "($[(a), b,]?)", "$[a]? = b", "for $[\na\n]? in b: c"],
    "Tuple": ["$a, b?", "$(a), b?", "$a,?", "$(a,)?", "($(a, b)?)", "$(a), (b)? = c", "for $a, b,? in c: d",
    "for $(a, b)? in c: d", "'a'[$b, c,?]", "'a'[$*b?]", "'a'[$b:c, (d)?]", "return $(a), b,? # c", "$()?",
    "'a'[$(b)[c],?]", "del ($(a, b)?)", "[a for $(b), c? in d]", "yield $a,? ;", "$(a\n), b?\n",
    "with a as $(b, c)?: d", "match $(a), b,?:\n case c: d"],
    "Slice": ["a[$:?]", "a[$b:?]", "a[$:b?]", "a[$(b):(c)?]", "a[$: :?]", "a[ $b : c : (d)? ]", "a[b, $c:?]",
    "a[$(b)\n:?\n]"],
    "ExceptHandler": ["try: a\n$except: b?", "try: a\n$except b as c:\n  d;?\n\ne",
    "try: a\n$except (b): (c)?\nfinally: d"],
    "arg": ["lambda $a?: b", "lambda *$a?: b", "def f($a?): b", "def f($a: b? = c): d", "def f($a : (b)?): c",
    "def f(**$a: b?): c", "def f(*, $a?=b): c"],
    "keyword": ["f($a=b?)", "f($a = (b)?)", "f(a, $**b?)", "f($** (b)?, c=d)", "class A($a=b?): c"],
    "alias": ["import $a?", "import $a . b as c?, d", "from a import $b?", "from a import ($b as c?,)",
    "from a import $*?", "from . import (\n$a\nas b?)"],
}
CASES = {
    "MatchValue": ["$1?", "($-1?)", "$1 + 2j?", "$'a' 'b'?", "$a.b.c?", "[($a . b?)]", "$- 1? as b"],
    "MatchSingleton": ["$None?", "($True?)", "[(\n$False?\n)]"],
    "MatchSequence": ["$[]?", "$()?", "$(a, b,)?", "$a, b?", "$a,?", "$(a), b,?", "($[a]?)", "(($(a, b)?))",
    "$(a), (b)?", "$*a,?", "$[a, *b]? as c", "$a as b, c?", "A($(b,)?)"],
    "MatchOr": ["$a | b?", "$(a) | (b)?", "($a | b?)", "$a | b? as c", "[($1 | (2)?)]"],
    "MatchMapping": ["${}?", "(${'a': b, **c,}?)", "${'a': (b)}? as c"],
    "MatchClass": ["$A()?", "($a.B(c, d=(e),)?)", "$A(b)? as c", "$A (\n)?"],
    "MatchStar": ["[$*a?]", "$*_?,", "(b, $* a?,)"],
    "MatchAs": ["$a?", "($_?)", "$(1) as b?", "$(a | 1) as b?", "($1 as b?)", "[$[] as b?]", "A(b=$c?)",
    "$((1)) as c?"],
}


def marked_texts():
    for kind, texts in MARKS.items():
        for text in texts:
            yield kind, text
    for kind, texts in CASES.items():
        for text in texts:
            yield kind, f"match x:\n case {text}: y"
            yield kind, f"match x:\n  case z: z\n  case {text} if (y):\n    z"


def place_of_marks(text):
    """Return a text without its marks, and the place between them."""
    found = []
    for mark in "$?":
        before = text[:text.index(mark)].replace("$", "")
        found += [before.count("\n") + 1, len(before) - before.rfind("\n") - 1]
    return text.replace("$", "").replace("?", ""), tuple(found)


class PlacesTest(unittest.TestCase):
    def test_first_and_last_character_of_every_kind(self):
        for kind, marked in marked_texts():
            text, wanted = place_of_marks(marked)
            places = [place(node) for node in nodes_in(parse(text)) if node.kind == kind]
            self.assertIn(wanted, places, (kind, marked))

    def test_all_marked_kinds_are_tested(self):
        self.assertEqual(set(MARKS) | set(CASES), set(MARKED))
        self.assertLessEqual(set(MARKED), set(KINDS))

    def test_other_kinds_have_no_places(self):
        seen = set()
        for _, marked in marked_texts():
            for node in nodes_in(parse(place_of_marks(marked)[0])):
                seen.add(node.kind)
                if node.kind in MARKED:
                    self.assertNotIn(None, place(node), node.kind)
                    self.assertLessEqual(place(node)[:2], place(node)[2:])
                else:
                    self.assertEqual(place(node), (None, None, None, None), node.kind)
        self.assertLessEqual({"Module", "arguments", "withitem", "match_case", "comprehension", "Load", "Store",
            "Del", "Add"}, seen)
        text = "(a)"
        self.assertEqual(place(parse(text, "eval")), (None, None, None, None))
        self.assertEqual(place(parse(text, "eval")["body"]), (1, 1, 1, 2))

    def test_examples(self):
        statement = parse("(a)")["body"][0]
        self.assertEqual(place(statement), (1, 0, 1, 3))
        self.assertEqual(place(statement["value"]), (1, 1, 1, 2))
        attribute = parse("(a + b).c")["body"][0]["value"]
        self.assertEqual(place(attribute), (1, 0, 1, 9))
        self.assertEqual(place(attribute["value"]), (1, 1, 1, 6))
        self.assertEqual(place(parse("(a), b")["body"][0]["value"]), (1, 0, 1, 6))
        self.assertEqual(place(parse("if a: b;")["body"][0]), (1, 0, 1, 8))
        self.assertEqual(place(parse("if a: b;")["body"][0]["body"][0]), (1, 6, 1, 7))

    def test_an_elif_is_an_if_with_its_own_place(self):
        outer = parse("if a: b\nelif c: d\nelse: e")["body"][0]
        self.assertEqual(place(outer), (1, 0, 3, 7))
        self.assertEqual(place(outer["orelse"][0]), (2, 0, 3, 7))

    def test_parts_of_an_import(self):
        names = parse("import a.b as c, d")["body"][0]["names"]
        self.assertEqual([place(name) for name in names], [(1, 7, 1, 15), (1, 17, 1, 18)])

    def test_elements_and_brackets(self):
        call = parse("f((a), *(b), c=(d), **(e))")["body"][0]["value"]
        source = "f((a), *(b), c=(d), **(e))"
        self.assertEqual([segment(source, arg) for arg in call["args"]], ["a", "*(b)"])
        self.assertEqual([segment(source, keyword) for keyword in call["keywords"]], ["c=(d)", "**(e)"])

    def test_places_in_the_mode_eval(self):
        node = parse("\n# a\n(a),\\\n b, # c\n", "eval")["body"]
        self.assertEqual(place(node), (3, 0, 4, 3))

    def test_text_at_the_place_of_an_expression_is_read_as_this_expression(self):
        for _, marked in marked_texts():
            text = place_of_marks(marked)[0]
            for node in nodes_in(parse(text)):
                if node.kind in SELF_CONTAINED:
                    again = parse("(" + segment(text, node) + ")", "eval")["body"]
                    self.assertIsNone(difference(node, again), (marked, node.kind))
                elif node.kind == "Name":
                    self.assertEqual(segment(text, node), node["id"])


if __name__ == "__main__":
    unittest.main()
