"""The trees of Python's own reader, with their places, for texts of the language: DOC.md [1], [31] and [54]."""

import ast
import sys
import unittest
import warnings

from treequill.floats import float_of
from treequill.nodes import Node, fields_of
from treequill.reading import parse
from treequill.values import Dots, Imaginary, Octets
from treequill.writing import unparse

from grammar import Speaker
from helping import difference, refused
from test_floats import float_from
from test_refused import PROGRAMS

# Before it, what stands in fields has no places of its own, and cannot have the quotes around it.
READS_FIELDS = sys.version_info >= (3, 12)


def value_from(value):
    if value is ...:
        return Dots()
    if isinstance(value, bytes):
        return Octets(tuple(value))
    if isinstance(value, float):
        return float_from(value)
    return Imaginary(float_from(value.imag)) if isinstance(value, complex) else value


def tree_from(thing):
    """Return the tree of one of Python's trees."""
    if isinstance(thing, list):
        return [tree_from(item) for item in thing]
    if not isinstance(thing, ast.AST):
        return thing
    kind = type(thing).__name__
    if kind == "Constant":
        node = Node(kind, value_from(thing.value))
    else:
        names = {"exc": "type"} if kind == "ExceptHandler" else {}
        node = Node(kind, *[tree_from(getattr(thing, names.get(name, name))) for name in fields_of(kind)])
    for name in ("lineno", "col_offset", "end_lineno", "end_col_offset"):
        setattr(node, name, getattr(thing, name, None))
    return node


def without_places_of_texts(node):
    """Take away the places of which nothing is specified: those of specs and of texts in JoinedStrs."""
    for name in fields_of(node.kind):
        value = node[name]
        for item in value if isinstance(value, list) else [value]:
            if isinstance(item, Node):
                if node.kind == "JoinedStr" and item.kind == "Constant" or name == "format_spec":
                    item.lineno = item.col_offset = item.end_lineno = item.end_col_offset = None
                without_places_of_texts(item)
    return node


class PythonTest(unittest.TestCase):
    def setUp(self):
        # Python warns of texts like 1() and () is a.
        self.caught = warnings.catch_warnings()
        self.caught.__enter__()
        warnings.simplefilter("ignore")

    def tearDown(self):
        self.caught.__exit__(None, None, None)

    def assert_as_in_python(self, text):
        if "f'" in text and not READS_FIELDS:
            return
        wanted = without_places_of_texts(tree_from(ast.parse(text)))
        self.assertIsNone(difference(without_places_of_texts(parse(text)), wanted, True), text)

    def test_whole_programs(self):
        for text in PROGRAMS:
            self.assert_as_in_python(text)

    def test_random_texts(self):
        speaker = Speaker(21)
        compared = 0
        for start, many in (("program", 150), ("simple", 50), ("match", 50), ("with", 50), ("fstring", 50),
            ("def", 50), ("class", 50), ("for", 50), ("try", 50), ("primary", 50), ("braces", 50),
            ("tgt_listing", 50)):
            for _ in range(many):
                words = speaker.words(start, speaker.chance.randint(1, 60))
                if start != "program":
                    words += ["NEWLINE", "END"]
                text = speaker.text(words)
                if refused(text) is None:
                    self.assert_as_in_python(text)
                    compared += 1
        self.assertGreater(compared, 500)

    def test_what_is_written_is_read_by_python_as_well(self):
        speaker = Speaker(22)
        for _ in range(150):
            text = speaker.text(speaker.words("program", speaker.chance.randint(1, 70)))
            if refused(text) is None:
                self.assert_as_in_python(unparse(parse(text)))

    def test_what_python_has_and_the_language_has_not(self):
        for text, line, column in (
            ("a " + chr(37) + " b", 1, 2), ("try: a\nexcept* b: c", 2, 6), ("def f[a](): b", 1, 5),
            ("class A[b]: c", 1, 7), ("u'a'", 1, 1), ("f'{a=}'", 1, 4), ("f'{a:{b:c}}'", 1, 7), ("'\\a'", 1, 1),
            ("'\\u0041'", 1, 1), ("*a", 1, 2), ("a = *b", 1, 6), ("for *a in b: c", 1, 7),
            ("1if a else b", 1, 0), ("1or a", 1, 0), ("'\\d'", 1, 1), ("match a:\n case f'b': c", 2, 6),
            ("with a as *b: c", 1, 10), ("a" + "\t" + "+ b", 1, 1), ("type = type X = a", 1, 12), ("return *a", 1, 9),
            ("f'{a:\\n}'", 1, 5), ("f'{a:{{}}'", 1, 9),
        ):
            self.assertEqual(refused(text), (line, column), text)

    def test_comments_about_kinds_are_comments(self):
        node = parse("a = b # type: int")["body"][0]
        self.assertEqual(fields_of(node.kind), ("targets", "value"))
        self.assertEqual(fields_of("Module"), ("body",))
        self.assertEqual(fields_of("ExceptHandler"), ("exc", "name", "body"))
        self.assertEqual(fields_of("Constant"), ("value",))
        self.assertEqual(float_of("1.5"), parse("1.5")["body"][0]["value"]["value"])


if __name__ == "__main__":
    unittest.main()
