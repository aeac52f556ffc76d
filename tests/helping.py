"""What the tests of reading and writing share; none of it uses the program's own walks and comparisons."""

from treequill.errors import BadNode, BadText, NoText
from treequill.lexing import Lexer
from treequill.nodes import Node, fields_of
from treequill.reading import parse
from treequill.values import Dots, Float, Imaginary, Octets
from treequill.writing import unparse

from table import GROUPS


class Likeness:
    """An object that has what nodes have, says that it equals everything, and is none."""

    kind = "Name"
    lineno = col_offset = end_lineno = end_col_offset = 1

    def __eq__(self, other):
        return True

    def __getitem__(self, at):
        return "a"

    __hash__ = None


# Objects of many sorts that are no nodes; strings stand apart, as some functions take texts.
NO_NODES = (
    None, True, False, 0, 1, -1, 1.5, 1j, b"", b"Name", (), (1,), [], [1], {}, {"kind": "Name"}, set(), ..., object(),
    object, Node, str, len, NotImplemented, range(3), lambda: 1, Likeness(), Likeness, Dots(), Float(1, 2), Dots,
    Imaginary(Float(1, 2)), Octets((1,)), BadNode(), BadNode, parse, slice(None), (Node("Pass"),), [Node("Pass")],
    {"body": Node("Pass")}, iter([Node("Pass")]),
)
NO_NODES_BUT_STRINGS = ("", "Name", "a = 1", "Module(body=[])")
ATTRIBUTES = ("lineno", "col_offset", "end_lineno", "end_col_offset")


def short(thing):
    """Return a short text of a tree: fields by position, a Load left out, operators by their kinds alone."""
    if isinstance(thing, Node):
        values = [thing[name] for name in fields_of(thing.kind)]
        parts = [short(value) for value in values if not (isinstance(value, Node) and value.kind == "Load")]
        return thing.kind + (f"({', '.join(parts)})" if parts else "")
    if isinstance(thing, list):
        return "[" + ", ".join(short(item) for item in thing) + "]"
    if isinstance(thing, Dots):
        return "..."
    if isinstance(thing, Float):
        return f"Float({thing.mantissa}, {thing.exponent})"
    if isinstance(thing, Imaginary):
        return f"Imaginary({short(thing.number)})"
    if isinstance(thing, Octets):
        return repr(bytes(thing.numbers)) if isinstance(thing.numbers, tuple) else "?"
    return repr(thing)


def expression(text):
    """Return the short text of an expression, read in both modes."""
    (statement,) = parse(text)["body"]
    assert statement.kind == "Expr"
    return short(statement["value"])


def statements(text):
    return ", ".join(short(node) for node in parse(text)["body"])


def refused(text, mode="exec"):
    """Return the place at which a text is refused, or None."""
    try:
        parse(text, mode)
    except BadText as error:
        return error.lineno, error.col_offset
    return None


def blamed(node):
    """Return the path of the node to blame, or None."""
    try:
        unparse(node)
    except NoText as error:
        return error.path
    return None


def place(node):
    return node.lineno, node.col_offset, node.end_lineno, node.end_col_offset


def segment(text, node):
    """Return what stands at the place of a node."""
    lines = text.split("\n")
    first, column, last, end = place(node)
    if first == last:
        return lines[first - 1][column:end]
    return "\n".join([lines[first - 1][column:], *lines[first:last - 1], lines[last - 1][:end]])


def snapshot(thing):
    """Return all that a node or list holds, with the objects themselves, so that two looks at it can be compared."""
    if isinstance(thing, Node):
        fields = [(name, snapshot(thing[name])) for name in fields_of(thing.kind)]
        return id(thing), thing.kind, [id(getattr(thing, name)) for name in ATTRIBUTES], fields
    if isinstance(thing, (list, tuple)):
        return id(thing), [snapshot(item) for item in thing]
    return id(thing)


def nodes_and_lists(thing):
    """Return the ids of all nodes and lists in a node, also those in lists within lists."""
    if isinstance(thing, Node):
        return [id(thing)] + [found for name in fields_of(thing.kind) for found in nodes_and_lists(thing[name])]
    if isinstance(thing, list):
        return [id(thing)] + [found for item in thing for found in nodes_and_lists(item)]
    return []


def nodes_in(node):
    """Return a node and all nodes in it."""
    found = [node]
    for name in fields_of(node.kind):
        value = node[name]
        for item in value if isinstance(value, list) else [value]:
            if isinstance(item, Node):
                found += nodes_in(item)
    return found


def difference(one, other, places=False):
    """Return None if two trees are equal, with places also in these, else where they differ."""
    if type(one) is not type(other):
        return [(one, other)]
    if isinstance(one, Node):
        if one.kind != other.kind or places and place(one) != place(other):
            return [(one.kind, place(one), other.kind, place(other))]
        pairs = [(name, one[name], other[name]) for name in fields_of(one.kind)]
    elif isinstance(one, list):
        if len(one) != len(other):
            return [(one, other)]
        pairs = [(at, *pair) for at, pair in enumerate(zip(one, other))]
    else:
        return None if one == other else [(one, other)]
    for name, first, second in pairs:
        found = difference(first, second, places)
        if found is not None:
            return [name, *found]
    return None


def read_again(text, node):
    """Read what was written for a node as a node of this kind."""
    if node.kind == "Module":
        return parse(text)
    if node.kind == "Expression":
        return parse(text, "eval")
    if node.kind in GROUPS["STMT"]:
        (statement,) = parse(text)["body"]
        return statement
    return parse(text, mode="eval")["body"]


def round_brackets(text):
    """Return the pairs of the indexes of round brackets in a text."""
    starts = [0]
    for line in text.split("\n"):
        starts.append(starts[-1] + len(line) + 1)
    opened, pairs = [], []
    for token in Lexer(text).cut():
        at = starts[token.start[0] - 1] + token.start[1]
        if token.kind in ("(", "[", "{", "FIELD"):
            opened.append((token.kind, at))
        elif token.kind in (")", "]", "}"):
            kind, begin = opened.pop()
            if kind == "(":
                pairs.append((begin, at))
    return pairs


def needless_brackets(text, node):
    """Return the pairs of round brackets without which a text is one of the same tree."""
    found = []
    for begin, end in round_brackets(text):
        for gap in ("", " "):
            less = text[:begin] + gap + text[begin + 1:end] + gap + text[end + 1:]
            try:
                other = read_again(less, node)
            except (BadText, ValueError):
                continue
            if difference(node, other) is None:
                found.append((begin, end))
    return found
