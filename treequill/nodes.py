"""Nodes, and which of them are trees."""

from treequill.errors import BadField, BadKind, BadNode
from treequill.kinds import FIELDS, GROUPS, LIST_MARKS
from treequill.plain import CHECKS

ATTRIBUTES = ("lineno", "col_offset", "end_lineno", "end_col_offset")


class Node:
    """A node of a tree: parts are the values of its first fields, more are values by name."""

    def __init__(self, kind, *parts, **more):
        names = fields_of(kind)
        if len(parts) > len(names):
            raise BadField(kind, len(parts))
        missing = names[len(parts):]
        for name in more:
            if name not in missing and name not in ATTRIBUTES:
                raise BadField(kind, name)
        self.kind = kind
        self.lineno = more.get("lineno")
        self.col_offset = more.get("col_offset")
        self.end_lineno = more.get("end_lineno")
        self.end_col_offset = more.get("end_col_offset")
        self._fields = {}
        for name, value in zip(names, parts):
            self._fields[name] = value
        for name, _, mark in FIELDS[kind][len(parts):]:
            self._fields[name] = more[name] if name in more else _default(name, mark)

    def __getitem__(self, at):
        if not isinstance(at, str) or at not in self._fields:
            raise BadField(self.kind, at)
        return self._fields[at]

    def __setitem__(self, at, worth):
        if not isinstance(at, str) or at not in self._fields:
            raise BadField(self.kind, at)
        self._fields[at] = worth

    # Without this method Python would ask for node[0], node[1] and so on.
    def __iter__(self):
        raise TypeError("a node is not iterated over")


def _default(name, mark):
    """Return the value of a field that is not given."""
    if mark in LIST_MARKS:
        return []
    if name == "ctx":
        return Node("Load")
    return None


def fields_of(kind):
    """Return the names of the fields of a kind, in their order."""
    if not isinstance(kind, str) or kind not in FIELDS:
        raise BadKind(kind)
    return tuple([row[0] for row in FIELDS[kind]])


def check_node(thing):
    """Refuse what is no node."""
    if not isinstance(thing, Node):
        raise BadNode()


def is_tree(thing):
    """Tell whether an object is a node of which all fields, and those of the nodes in it, are right."""
    if not isinstance(thing, Node):
        return False
    # A list of what is left to look at, as trees may be deeper than calls should be.
    waiting = [thing]
    while waiting:
        node = waiting.pop()
        for name, rule, mark in FIELDS[node.kind]:
            value = node[name]
            if not _fits(value, rule, mark):
                return False
            waiting.extend(nodes_of(value))
    return True


def _fits(value, rule, mark):
    """Tell whether a value is right for a field with this rule and mark."""
    if mark not in LIST_MARKS:
        return _fits_one(value, rule) or mark == "?" and value is None
    if not isinstance(value, list) or mark == "+" and not value:
        return False
    return all([_fits_one(item, rule) or mark == "?*" and item is None for item in value])


def _fits_one(value, rule):
    if rule in CHECKS:
        check = CHECKS[rule]
        return check(value)
    # A rule that is no group either is the one kind that is right.
    return isinstance(value, Node) and value.kind in GROUPS.get(rule, (rule,))


def nodes_of(value):
    """Return the nodes that the value of a field is, or has as its items."""
    items = value if isinstance(value, list) else [value]
    return [item for item in items if isinstance(item, Node)]
