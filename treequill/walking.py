"""Walks through trees, dumps and copies them, and deals with the places of nodes."""

from treequill.copying import copied
from treequill.errors import BadNode, BadPlace
from treequill.kinds import FIELDS, has_place
from treequill.literal_text import value_text
from treequill.nodes import Node, check_node, fields_of, nodes_of
from treequill.plain import is_int

DOCUMENTED = ("Module", "FunctionDef", "AsyncFunctionDef", "ClassDef")
START = (1, 0, 1, 0)


def walk(node):
    """Return the list of a node and all nodes in it: a node, then each one in it with those in this one."""
    check_node(node)
    found = []
    # A list of what is left to look at, the first one last, as trees may be deeper than calls should be.
    waiting = [node]
    while waiting:
        part = waiting.pop()
        found.append(part)
        waiting += iter_child_nodes(part)[::-1]
    return found


def iter_child_nodes(node):
    """Return the list of the nodes that the fields of a node are, or have in their lists."""
    check_node(node)
    children = []
    for name in fields_of(node.kind):
        children += nodes_of(node[name])
    return children


def iter_fields(node):
    """Return the list of the pairs of a name and a value for the fields of a node."""
    check_node(node)
    return [(name, node[name]) for name in fields_of(node.kind)]


def dump(node, annotate_fields=True, include_attributes=False):
    """Return a text that tells all fields of a tree."""
    check_node(node)
    return _dumped(node, annotate_fields, include_attributes)


def _dumped(value, annotate_fields, include_attributes):
    """Return the text of a node, a list, or another value of a field."""
    if isinstance(value, list):
        return "[" + ", ".join([_dumped(item, annotate_fields, include_attributes) for item in value]) + "]"
    if not isinstance(value, Node):
        return value_text(value)
    parts = []
    for name, _, mark in FIELDS[value.kind]:
        if annotate_fields and _is_left_out(value[name], mark):
            continue
        text = _dumped(value[name], annotate_fields, include_attributes)
        parts.append(f"{name}={text}" if annotate_fields else text)
    if include_attributes:
        parts += _attribute_texts(value)
    return f"{value.kind}({', '.join(parts)})"


def _is_left_out(value, mark):
    return value is None and mark == "?" or isinstance(value, list) and not value


def _attribute_texts(node):
    pairs = [
        ("lineno", node.lineno), ("col_offset", node.col_offset),
        ("end_lineno", node.end_lineno), ("end_col_offset", node.end_col_offset),
    ]
    return [f"{name}={value_text(value)}" for name, value in pairs if value is not None]


def copy_tree(node):
    """Return a copy of a node and of all that is in it."""
    check_node(node)
    return copied(node)


def copy_location(new, old):
    """Give a node the attributes of another one that are not None there, and return it."""
    check_node(new)
    check_node(old)
    if old.lineno is not None:
        new.lineno = old.lineno
    if old.col_offset is not None:
        new.col_offset = old.col_offset
    if old.end_lineno is not None:
        new.end_lineno = old.end_lineno
    if old.end_col_offset is not None:
        new.end_col_offset = old.end_col_offset
    return new


def fix_missing_locations(node):
    """Give nodes that lack attributes those of the nearest node above them that has some; return the node."""
    check_node(node)
    waiting = [(node, START)]
    while waiting:
        part, above = waiting.pop()
        if has_place(part.kind):
            _fill_place(part, above)
            above = (part.lineno, part.col_offset, part.end_lineno, part.end_col_offset)
        waiting += [(child, above) for child in iter_child_nodes(part)]
    return node


def _fill_place(node, above):
    """Give a node those of four attributes that it lacks."""
    lineno, col_offset, end_lineno, end_col_offset = above
    if node.lineno is None:
        node.lineno = lineno
    if node.col_offset is None:
        node.col_offset = col_offset
    if node.end_lineno is None:
        node.end_lineno = end_lineno
    if node.end_col_offset is None:
        node.end_col_offset = end_col_offset


def increment_lineno(node, n=1):
    """Add a number to the lines of a node and of all nodes in it, where they have some; return the node."""
    for part in walk(node):
        if part.lineno is not None:
            part.lineno += n
        if part.end_lineno is not None:
            part.end_lineno += n
    return node


def get_docstring(node, clean=True):
    """Return the docstring of a module, a function or a class, or None if it has none."""
    check_node(node)
    if node.kind not in DOCUMENTED:
        raise BadNode()
    text = _first_string(node["body"])
    return _cleaned(text) if clean and text is not None else text


def _first_string(statements):
    """Return the string that is the first statement, or None if this is another one."""
    if not statements or statements[0].kind != "Expr":
        return None
    value = statements[0]["value"]
    if value.kind != "Constant" or not isinstance(value["value"], str):
        return None
    return value["value"]


def _cleaned(text):
    """Return a docstring without its indentation, and without empty lines at its beginning and end."""
    first, *others = text.split("\n")
    widths = [len(line) - len(line.lstrip(" ")) for line in others if line.strip(" ")]
    width = min(widths) if widths else 0
    lines = [first.lstrip(" ")] + [line[width:] for line in others]
    return "\n".join(lines).strip("\n")


def source_segment(text, node):
    """Return what stands in a text at the place of a node, or None if the node has no place."""
    check_node(node)
    for number in (node.lineno, node.col_offset, node.end_lineno, node.end_col_offset):
        if number is None:
            return None
    begin = _index_of(text, node.lineno, node.col_offset)
    end = _index_of(text, node.end_lineno, node.end_col_offset)
    if begin is None or end is None or end < begin:
        raise BadPlace()
    return text[begin:end]


def _index_of(text, line, column):
    """Return the index of a place in a text, or None if it is none."""
    if not is_int(line) or not is_int(column):
        return None
    lines = text.split("\n")
    if not 1 <= line <= len(lines) or not 0 <= column <= len(lines[line - 1]):
        return None
    return sum([len(row) + 1 for row in lines[:line - 1]]) + column
