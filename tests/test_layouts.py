"""The same program laid out in many ways, and written texts: DOC.md [2], [7], [8], [23], [25] and [31]."""

import ast
import unittest
import warnings

from treequill.blocks import scopes
from treequill.changing import compare
from treequill.errors import BadScope
from treequill.nodes import Node, fields_of
from treequill.reading import parse
from treequill.walking import dump, iter_child_nodes, source_segment, walk
from treequill.writing import unparse

from grammar import Speaker
from helping import blamed, difference, nodes_in, read_again, refused
from layouts import Layout
from maker import Maker
from scoping import Writer
from table import GROUPS, MARKED
from test_python import READS_FIELDS, tree_from, without_places_of_texts
from test_refused import PROGRAMS


def programs():
    """Return many programs of all sorts."""
    speaker = Speaker(51)
    found = list(PROGRAMS)
    while len(found) < 70:
        text = speaker.text(speaker.words("program", speaker.chance.randint(5, 70)))
        if text and refused(text) is None:
            found.append(text)
    found += [unparse(Maker(seed).tree()) for seed in range(8600, 8640) if Maker(seed).tree().kind == "Module"]
    return found + [Writer(seed).program(3) for seed in range(3000, 3015)]


def blocks_or_fault(tree):
    try:
        return scopes(tree)
    except BadScope as error:
        return error.name


class LayoutTest(unittest.TestCase):
    def assert_same(self, one, other):
        """Ask for the same program in two texts."""
        self.assertIsNone(refused(other), (one, other))
        first, second = parse(one), parse(other)
        self.assertIsNone(compare(first, second), (one, other))
        self.assertEqual(dump(first), dump(second))
        self.assertEqual(unparse(first), unparse(second))
        self.assertEqual(blocks_or_fault(first), blocks_or_fault(second))

    def test_other_spaces_lines_and_comments(self):
        changed = 0
        for at, text in enumerate(programs()):
            for seed in range(3):
                other = Layout(at * 10 + seed).lay_out(text)
                changed += other != text
                self.assert_same(text, other)
        self.assertGreater(changed, 250)

    def test_joined_lines_and_blocks(self):
        for at, text in enumerate(programs()):
            written = unparse(parse(text))
            layout = Layout(at)
            joined = layout.join_lines(written)
            self.assert_same(written, joined)
            self.assert_same(text, layout.lay_out(joined))

    def test_expressions(self):
        for seed in range(8700, 8730):
            text = unparse(Maker(seed).expression(3))
            for way in range(3):
                other = Layout(seed + way).lay_out(text)
                if not other.startswith("\\"):
                    self.assertIsNone(compare(parse(text, "eval"), parse(other, "eval")), other)

    def test_places_in_other_layouts(self):
        """Names and what has its own first and last token stand at their places, whatever is around them."""
        for at, text in enumerate(programs()):
            other = Layout(at).lay_out(text)
            first, second = parse(text), parse(other)
            for one, node in zip(walk(first), walk(second)):
                if node.kind not in MARKED or node.kind in ("Constant", "JoinedStr"):
                    continue
                # The same tokens, so the same text but for what stands between them.
                self.assertEqual(self.bare(source_segment(text, one)), self.bare(source_segment(other, node)))
                if node.kind == "Name":
                    self.assertEqual(source_segment(other, node), node["id"])
                elif node.kind == "keyword":
                    self.assertTrue(source_segment(other, node).startswith(node["arg"] or "**"))

    def bare(self, text):
        """Return a text without spaces, lines and comments."""
        kept = []
        for line in text.split("\n"):
            for comment in ("##if a:", "#)]}:", "# \\", "#'\"", "# a b"):
                line = line.replace(comment, "")
            kept.append(line.rstrip(" #\\"))
        return "".join(kept).replace(" ", "").replace("\\", "")

    def test_nodes_stand_within_those_around_them(self):
        for at, text in enumerate(programs()):
            other = Layout(at).lay_out(text)
            waiting = [(parse(other), (1, 0), (10 ** 6, 0))]
            while waiting:
                node, begin, end = waiting.pop()
                if node.kind in MARKED:
                    self.assertLessEqual(begin, (node.lineno, node.col_offset))
                    self.assertLessEqual((node.lineno, node.col_offset), (node.end_lineno, node.end_col_offset))
                    self.assertLessEqual((node.end_lineno, node.end_col_offset), end)
                    begin, end = (node.lineno, node.col_offset), (node.end_lineno, node.end_col_offset)
                for child in iter_child_nodes(node):
                    # Decorators stand ahead of what they belong to; nothing is said of what stands in a JoinedStr.
                    if child in node_list(node, "decorator_list"):
                        waiting.append((child, (1, 0), end))
                    elif node.kind == "JoinedStr" and child.kind == "Constant" or child.kind == "JoinedStr" \
                            and node.kind == "FormattedValue" and child is node["format_spec"]:
                        waiting += [(part, begin, end) for part in iter_child_nodes(child)]
                    else:
                        waiting.append((child, begin, end))

    def test_places_are_those_of_python(self):
        compared = 0
        with warnings.catch_warnings():
            warnings.simplefilter("ignore")
            for at, text in enumerate(programs()):
                other = Layout(at + 7).lay_out(text)
                if "f'" in text and not READS_FIELDS:
                    continue
                wanted = without_places_of_texts(tree_from(ast.parse(other)))
                self.assertIsNone(difference(without_places_of_texts(parse(other)), wanted, True), other)
                compared += 1
        self.assertGreater(compared, 50)

    def test_one_program_by_hand(self):
        plain = "if a:\n    b = c, d\n    e()\nelse:\n    f"
        for text in (
            "if a:b=c,d;e()\nelse:f", "if a :\n b = c , d ; e ( ) ;\nelse :\n      f\n", "if (a):\n\n  b = (c, d)\n# x\n  e()\nelse: f;",
            "\n\nif a: # x\n  b = c,\\\n d\n\n  # y\n\n  e(\n# z\n\n)\nelse:\n  f", "if a:\n  b = (c,\nd); e()\n \n   # x\nelse: \\\n f # x",
            "if a:\n        b=c,d\n        e( )\nelse:\n f",
        ):
            self.assert_same(plain, text)
        for text in ("if a:\n  b = c, d\n e()", "if a: b = c, d\n  e()", "if a: if b: c", "a;; b", "; a", "if a: ; b", "a\n b"):
            self.assertIsNotNone(refused(text), text)


def node_list(node, field):
    return node[field] if field in fields_of(node.kind) else []


class WrittenTest(unittest.TestCase):
    """[2]: what is written is read as an equal tree, and written again as it was, each part of it by itself too."""

    def assert_again(self, node):
        text = unparse(node)
        again = read_again(text, node)
        self.assertIsNone(compare(node, again), text)
        self.assertEqual(unparse(again), text)
        self.assertEqual(dump(node), dump(again))
        return text

    def assert_parts(self, tree):
        self.assert_again(tree)
        for node in walk(tree):
            if node.kind in GROUPS["STMT"] or node.kind in GROUPS["EXPR"] and blamed(node) is None:
                self.assert_again(node)

    def test_programs(self):
        for text in programs():
            self.assert_parts(parse(text))

    def test_random_trees(self):
        for seed in range(8800, 8860):
            self.assert_parts(Maker(seed).tree())

    def test_what_stands_by_itself(self):
        tree = parse("a = b\ndel c\n*d, = e[f:g]")
        blames = [node.kind for node in nodes_in(tree) if node.kind in GROUPS["EXPR"] and blamed(node) is not None]
        self.assertEqual(blames, ["Name", "Name", "Tuple", "Starred", "Name", "Slice"])
        for node in nodes_in(tree):
            if node.kind in GROUPS["EXPR"] and blamed(node) is not None:
                self.assertEqual(blamed(node), ())
        self.assertEqual(unparse(Node("Tuple", [Node("Starred", Node("Name", "a"))])), "(*a,)")


if __name__ == "__main__":
    unittest.main()
