"""Compares trees, and makes changed ones."""

from treequill.copying import copied, with_parts
from treequill.errors import BadChange
from treequill.kinds import FIELDS
from treequill.nodes import Node, check_node, fields_of
from treequill.walking import walk


def compare(one, other, places=False):
    """Return None if two trees are equal, else the path of the first difference."""
    check_node(one)
    check_node(other)
    return _difference(one, other, places, ())


def _difference(one, other, places, path):
    """Return the path of the first difference of two values at a path, or None."""
    if not isinstance(one, Node) or not isinstance(other, Node):
        return None if _are_same(one, other) else path
    if one.kind != other.kind or places and not _have_same_place(one, other):
        return path
    for name in fields_of(one.kind):
        found = _difference_in_field(one, other, name, places, path)
        if found is not None:
            return found
    return None


def _difference_in_field(one, other, name, places, path):
    first, second = one[name], other[name]
    if not isinstance(first, list) or not isinstance(second, list):
        return _difference(first, second, places, (*path, name))
    if len(first) != len(second):
        return (*path, name)
    for index, pair in enumerate(zip(first, second)):
        found = _difference(pair[0], pair[1], places, (*path, (name, index)))
        if found is not None:
            return found
    return None


def _are_same(one, other):
    """Tell whether two values are equal and of the same kind: True and 1 are not."""
    return one.__class__.__name__ == other.__class__.__name__ and one == other


def _have_same_place(one, other):
    return (
        _are_same(one.lineno, other.lineno)
        and _are_same(one.col_offset, other.col_offset)
        and _are_same(one.end_lineno, other.end_lineno)
        and _are_same(one.end_col_offset, other.end_col_offset)
    )


def visit(node, handlers):
    """Call for each node the function of its kind, and return the list of what they return."""
    results = []
    for part in walk(node):
        if part.kind in handlers:
            function = handlers[part.kind]
            results.append(function(part))
    return results


def transform(node, handlers):
    """Return a new tree in which the functions of their kinds have replaced the nodes."""
    check_node(node)
    made = _transformed(node, handlers)
    if not isinstance(made, Node):
        raise BadChange(node.kind, "")
    return made


def _transformed(node, handlers):
    """Return what takes the place of a node."""
    parts = [_new_value(node, name, mark, handlers) for name, _, mark in FIELDS[node.kind]]
    copy = with_parts(node, parts)
    if node.kind not in handlers:
        return copy
    function = handlers[node.kind]
    return function(copy)


def _new_value(node, name, mark, handlers):
    """Return what becomes of the value of a field."""
    value = node[name]
    if isinstance(value, list):
        return _new_items(node, name, handlers)
    if not isinstance(value, Node):
        return value
    made = _transformed(value, handlers)
    if isinstance(made, Node) or made is None and mark == "?":
        return made
    raise BadChange(node.kind, name)


def _new_items(node, name, handlers):
    """Return what becomes of a list in a field."""
    items = []
    for item in list(node[name]):
        if isinstance(item, Node):
            made = _transformed(item, handlers)
            if not _fits_list(made):
                raise BadChange(node.kind, name)
            items += _as_items(made)
        else:
            items.append(copied(item))
    return items


def _fits_list(made):
    """Tell whether what a function returned can take the place of an item of a list."""
    if isinstance(made, list):
        return all([isinstance(item, Node) for item in made])
    return made is None or isinstance(made, Node)


def _as_items(made):
    if made is None:
        return []
    return made if isinstance(made, list) else [made]
