"""The text at the place of a node: DOC.md [32], [6] and [2]."""

import unittest

from treequill.errors import BadNode, BadPlace
from treequill.nodes import Node, fields_of
from treequill.reading import parse
from treequill.walking import copy_tree, source_segment
from treequill.writing import unparse

from grammar import Speaker
from helping import (
    ATTRIBUTES, NO_NODES, NO_NODES_BUT_STRINGS, difference, nodes_in, place, refused, segment, snapshot,
)
from maker import Maker
from table import GROUPS, MARKED
from test_places import marked_texts, place_of_marks
from test_refused import PROGRAMS

TEXTS = ("", "a", "\n", "ab\n", "\nab", "ab\ncd", "a\n\nbc\n\n", "abc\n\n\nd", " \n  \n")


def node_at(*values):
    return Node("Name", "a", **dict(zip(ATTRIBUTES, values)))


def loaded(node):
    """Return a copy in which all ctx are Load."""
    copy = copy_tree(node)
    for part in nodes_in(copy):
        if part.kind in ("Attribute", "Subscript", "Starred", "Name", "List", "Tuple"):
            part["ctx"] = Node("Load")
    return copy


def readable_parts(node, above=None, field=""):
    """Return the expressions in a node whose texts are read as themselves: all but those that [32] excepts."""
    found = []
    excepted = node.kind not in GROUPS["EXPR"] or node.kind in ("Starred", "Slice", "FormattedValue")
    excepted = excepted or field == "format_spec" or node.kind == "Constant" and above.kind == "JoinedStr"
    if node.kind == "Tuple" and field == "slice":
        # With a Slice it never has brackets; with a Starred it is left to a test of its own.
        excepted = any(item.kind in ("Starred", "Slice") for item in node["elts"])
    if not excepted:
        found.append(node)
    for pair in [(name, node[name]) for name in fields_of(node.kind)]:
        for item in pair[1] if isinstance(pair[1], list) else [pair[1]]:
            if isinstance(item, Node):
                found += readable_parts(item, node, pair[0])
    return found


class SegmentTest(unittest.TestCase):
    def assert_bad(self, text, *values):
        for node in (node_at(*values), Node("Pass", **dict(zip(ATTRIBUTES, values)))):
            before = snapshot(node)
            with self.assertRaises(BadPlace):
                source_segment(text, node)
            self.assertEqual(snapshot(node), before)

    def test_all_pairs_of_places(self):
        for text in TEXTS:
            lines = text.split("\n")
            starts = [sum(len(line) + 1 for line in lines[:at]) for at in range(len(lines))]
            tried = [(line, column) for line in range(-1, len(lines) + 3) for column in range(-2, 6)]
            for begin in tried:
                for end in tried:
                    indexes = []
                    for line, column in (begin, end):
                        if 1 <= line <= len(lines) and 0 <= column <= len(lines[line - 1]):
                            indexes.append(starts[line - 1] + column)
                    if len(indexes) == 2 and begin <= end:
                        found = source_segment(text, node_at(*begin, *end))
                        self.assertEqual(found, text[indexes[0]:indexes[1]])
                        self.assertIs(type(found), str)
                    else:
                        self.assert_bad(text, *begin, *end)

    def test_ends_of_texts_and_lines(self):
        text = "ab\ncd\n"
        for values, wanted in (
            ((1, 0, 1, 0), ""), ((1, 0, 1, 2), "ab"), ((1, 2, 1, 2), ""), ((1, 2, 2, 0), "\n"), ((1, 1, 2, 1), "b\nc"),
            ((1, 0, 3, 0), "ab\ncd\n"), ((3, 0, 3, 0), ""), ((2, 2, 3, 0), "\n"), ((1, 0, 2, 2), "ab\ncd"),
        ):
            self.assertEqual(source_segment(text, node_at(*values)), wanted)
        for values in ((1, 0, 1, 3), (1, 3, 2, 0), (3, 0, 3, 1), (4, 0, 4, 0), (1, 0, 4, 0), (0, 0, 1, 0),
            (1, -1, 1, 1), (1, 1, 1, 0), (2, 0, 1, 2), (1, 0, 0, 5), (2, 1, 2, 0)):
            self.assert_bad(text, *values)
        self.assertEqual(source_segment("", node_at(1, 0, 1, 0)), "")
        self.assert_bad("", 1, 0, 1, 1)
        self.assert_bad("", 2, 0, 2, 0)

    def test_none(self):
        for others in ((1, 0, 1, 1), (9, 9, 9, 9), (True, "a", [], 1.5), (2, 0, 1, 0), (None,) * 4):
            for chosen in range(1, 16):
                values = [None if chosen >> at & 1 else value for at, value in enumerate(others)]
                self.assertIsNone(source_segment("ab", node_at(*values)))
        self.assertIsNone(source_segment("ab", Node("Module")))
        self.assertIsNone(source_segment("a", parse("a")))
        self.assertIsNone(source_segment("a", parse("a")["body"][0]["value"]["ctx"]))

    def test_what_is_no_integer(self):
        for thing in (True, False, "1", 1.0, 0.0, (), (1,), [], [1], object(), Node("Pass"), b"1", int, 1j):
            for at in range(4):
                values = [1, 0, 1, 1]
                values[at] = thing
                self.assert_bad("ab", *values)

    def test_texts_of_nodes(self):
        text = "f(a,\n  b)\nif c:\n  (d) # e\n"
        tree = parse(text)
        call = tree["body"][0]["value"]
        self.assertEqual(source_segment(text, call), "f(a,\n  b)")
        self.assertEqual(source_segment(text, call["args"][1]), "b")
        self.assertEqual(source_segment(node=tree["body"][1], text=text), "if c:\n  (d)")
        self.assertEqual(source_segment(text, tree["body"][1]["body"][0]), "(d)")
        self.assertEqual(source_segment(text, tree["body"][1]["body"][0]["value"]), "d")

    def test_all_nodes_of_programs(self):
        for text in list(PROGRAMS) + [place_of_marks(marked)[0] for _, marked in marked_texts()]:
            tree = parse(text)
            before = snapshot(tree)
            for node in nodes_in(tree):
                if node.kind in MARKED:
                    self.assertEqual(source_segment(text, node), segment(text, node))
                else:
                    self.assertIsNone(source_segment(text, node))
            self.assertEqual(snapshot(tree), before)

    def test_a_text_that_is_another_one(self):
        node = parse("a\nbc")["body"][1]
        self.assertEqual(source_segment("x\nyz", node), "yz")
        self.assert_bad("x", *place(node))
        self.assert_bad("x\ny", *place(node))

    def test_what_is_no_node(self):
        for thing in NO_NODES + NO_NODES_BUT_STRINGS:
            for text in ("", "a"):
                with self.assertRaises(BadNode):
                    source_segment(text, thing)


class ExpressionsAtTheirPlacesTest(unittest.TestCase):
    def assert_read_again(self, text, mode="exec"):
        found = readable_parts(parse(text, mode))
        for node in found:
            part = f"({source_segment(text, node)})"
            self.assertIsNone(refused(part, "eval"), (text, part))
            self.assertIsNone(difference(loaded(parse(part, "eval")["body"]), loaded(node)), (text, part))
        return {node.kind for node in found}

    def test_every_kind(self):
        seen = set()
        for text in list(PROGRAMS) + [place_of_marks(marked)[0] for _, marked in marked_texts()]:
            seen |= self.assert_read_again(text)
        self.assertEqual(seen, set(GROUPS["EXPR"]) - {"Starred", "Slice", "FormattedValue"})

    def test_random_texts(self):
        speaker = Speaker(31)
        many = 0
        for start in ("program", "simple", "match", "with", "fstring", "def", "primary", "braces", "for", "try") * 12:
            words = speaker.words(start, speaker.chance.randint(1, 60))
            text = speaker.text(words if start == "program" else words + ["NEWLINE", "END"])
            if refused(text) is None:
                many += len(self.assert_read_again(text))
        self.assertGreater(many, 100)

    def test_what_is_written_for_random_trees(self):
        for seed in range(7400, 7480):
            tree = Maker(seed).tree()
            self.assert_read_again(unparse(tree), "exec" if tree.kind in ["Module"] + GROUPS["STMT"] else "eval")

    def test_in_fields_and_specs(self):
        for text in (
            "f'{a}{b + c!r}'", "f'{a:{b}}'", "f'{a:{(b, c)}d{e or f!s}}'", "f'''{\na\n+ b # c\n:{\nd, e}}'''",
            "x = 'a' f'{b}' \\\n 'c' f'{(yield)}'", "f'{yield a}{b,}{*c, d}'", "f'{f'{a}'}'", "f\"{f'{a + b:{c}}'}\"",
            "f'{ {a: b}[c] }{ {d} }'", "f'{(lambda: a)}{(b := c)}'", "rf'\\{a.b}\\n{c}'", "f'{a if b else c}{not d}'",
            "f'{a != b}{(a!=b)!r}'", "f'{a:>{b}.{c}}' f'{d:}'",
        ):
            self.assert_read_again(text)

    def test_tuples_of_subscripts(self):
        text = "a[(*b, c)], a[(b, c),], a[b, c], a[(b), (c)], a[b,], a[b := c, d]"
        for node in nodes_in(parse(text)):
            if node.kind == "Subscript":
                item = node["slice"]
                again = parse(f"({source_segment(text, item)})", "eval")["body"]
                self.assertIsNone(difference(again, item), source_segment(text, item))
        self.assertEqual([source_segment(text, node["slice"]) for node in nodes_in(parse(text))
            if node.kind == "Subscript"], ["(*b, c)", "(b, c),", "b, c", "(b), (c)", "b,", "b := c, d"])

    def test_targets(self):
        for text in ("(a), *b.c = d", "for (a), [b, *(c)] in d: e", "del (a, [b.c]), d[e]", "with a as (b, c): d",
            "(a): b", "(a).b += c", "[(a) for (a), b in c]"):
            self.assert_read_again(text)


if __name__ == "__main__":
    unittest.main()
