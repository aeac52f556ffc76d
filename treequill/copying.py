"""Copies of nodes and lists, with all nodes and lists in them."""

from treequill.kinds import FIELDS
from treequill.nodes import Node


def copied(value):
    """Return a copy of a node or a list, and anything else as it is."""
    if isinstance(value, list):
        return [copied(item) for item in value]
    if not isinstance(value, Node):
        return value
    return with_parts(value, [copied(value[name]) for name, _, _ in FIELDS[value.kind]])


def with_parts(node, parts):
    """Return a new node of the kind and with the attributes of another one, with these values of its fields."""
    new = Node(node.kind, *parts)
    new.lineno = node.lineno
    new.col_offset = node.col_offset
    new.end_lineno = node.end_lineno
    new.end_col_offset = node.end_col_offset
    return new
