"""Finds the first node because of which no text has a tree."""

from treequill.blame_patterns import misplaced_in_pattern, wrong_capture
from treequill.blame_values import wrong_name, wrong_value
from treequill.kinds import FIELDS
from treequill.nodes import Node
from treequill.targets import SEVERAL, SINGLE

# The fields that are target places, and the context that they want.
TARGET_FIELDS = {
    ("Assign", "targets"): "Store",
    ("AugAssign", "target"): "Store",
    ("AnnAssign", "target"): "Store",
    ("NamedExpr", "target"): "Store",
    ("For", "target"): "Store",
    ("AsyncFor", "target"): "Store",
    ("comprehension", "target"): "Store",
    ("withitem", "optional_vars"): "Store",
    ("Delete", "targets"): "Del",
}
PAIRED_LISTS = {
    "Compare": ("ops", "comparators"),
    "Dict": ("keys", "values"),
    "MatchMapping": ("keys", "patterns"),
    "MatchClass": ("kwd_attrs", "kwd_patterns"),
    "arguments": ("kwonlyargs", "kw_defaults"),
}
NOT_IN_SPECS = "{}'\"\\\n\t"


class Spot:
    """A node at its place in a tree: the spot above it, the field there, and the index in it or None.

    word is the context that a target place wants, and the empty string at other places.
    """

    def __init__(self, node, path, above, field, index):
        self.node = node
        self.path = path
        self.above = above
        self.field = field
        self.index = index
        self.word = ""
        if above is not None:
            self.word = _word_at(above, field)

    def stands_in(self, kind, field):
        return self.above is not None and self.above.node.kind == kind and self.field == field


def _word_at(above, field):
    """Return the context that a target place wants, and the empty string for other places."""
    kind = above.node.kind
    if kind in SEVERAL and field == "elts" or kind == "Starred" and field == "value":
        return above.word
    return TARGET_FIELDS.get((kind, field), "")


def path_to_blame(node):
    """Return the path of the first node that is to blame, or None if there is none."""
    waiting = [Spot(node, (), None, "", None)]
    while waiting:
        spot = waiting.pop()
        if _is_to_blame(spot):
            return spot.path
        # The first one is to be taken next.
        waiting += _spots_in(spot)[::-1]
    return None


def _spots_in(spot):
    """Return the spots of the nodes in the fields of a node, in their order."""
    spots = []
    for name, _, _ in FIELDS[spot.node.kind]:
        value = spot.node[name]
        if isinstance(value, Node):
            spots.append(Spot(value, (*spot.path, name), spot, name, None))
        elif isinstance(value, list):
            for index, item in enumerate(value):
                if isinstance(item, Node):
                    spots.append(Spot(item, (*spot.path, (name, index)), spot, name, index))
    return spots


def _is_to_blame(spot):
    return (
        _misplaced(spot)
        or _wrong_context(spot)
        or _wrong_target(spot)
        or spot.stands_in("JoinedStr", "values") and _wrong_piece(spot)
        or wrong_name(spot.node)
        or spot.node.kind == "alias" and _wrong_alias(spot)
        or _wrong_parts(spot)
        or wrong_value(spot.node)
        or wrong_capture(spot.node)
        or misplaced_in_pattern(spot)
    )


def _misplaced(spot):
    kind = spot.node.kind
    if kind == "Starred":
        return spot.field not in ("elts", "args", "bases") or spot.word == "Del"
    if kind == "Slice":
        in_tuple = spot.stands_in("Tuple", "elts") and spot.above.field == "slice"
        return spot.field != "slice" and not in_tuple
    return kind == "FormattedValue" and not spot.stands_in("JoinedStr", "values")


def _wrong_context(spot):
    names = [row[0] for row in FIELDS[spot.node.kind]]
    return "ctx" in names and spot.node["ctx"].kind != (spot.word or "Load")


def _wrong_target(spot):
    if not spot.word:
        return False
    kind = spot.node.kind
    if spot.stands_in("NamedExpr", "target"):
        return kind != "Name"
    if spot.stands_in("AugAssign", "target") or spot.stands_in("AnnAssign", "target"):
        return kind not in SINGLE
    return kind not in SINGLE and kind not in SEVERAL and not (kind == "Starred" and spot.field == "elts")


def _wrong_piece(spot):
    """Tell whether a node cannot stand in values of a JoinedStr, or not behind the one ahead of it."""
    node = spot.node
    in_spec = spot.above.field == "format_spec"
    if node.kind == "FormattedValue":
        return in_spec and node["format_spec"] is not None
    if not _is_text(node):
        return True
    if spot.index > 0 and _is_text(spot.above.node["values"][spot.index - 1]):
        return True
    return in_spec and any([sign in NOT_IN_SPECS for sign in node["value"]])


def _is_text(node):
    return node.kind == "Constant" and isinstance(node["value"], str) and node["value"] != ""


def _wrong_alias(spot):
    name = spot.node["name"]
    if spot.above.node.kind == "Import":
        return name == "*"
    if name == "*":
        return len(spot.above.node["names"]) > 1 or spot.node["asname"] is not None
    return "." in name


def _wrong_parts(spot):
    """Tell whether the parts of a node do not go together."""
    node = spot.node
    kind = node.kind
    if kind in PAIRED_LISTS:
        one, other = PAIRED_LISTS[kind]
        if len(node[one]) != len(node[other]):
            return True
    match kind:
        case "BoolOp":
            return len(node["values"]) == 1
        case "MatchOr":
            return len(node["patterns"]) == 1
        case "arguments":
            return len(node["defaults"]) > len(node["posonlyargs"]) + len(node["args"])
        case "AnnAssign":
            return node["simple"] == 1 and node["target"].kind != "Name"
        case "Raise":
            return node["cause"] is not None and node["exc"] is None
        case "Try":
            return not node["handlers"] and (not node["finalbody"] or bool(node["orelse"]))
        case "ExceptHandler":
            return node["name"] is not None and node["exc"] is None
        case "ImportFrom":
            return node["module"] is None and node["level"] == 0
        case "arg":
            return node["annotation"] is not None and spot.above.above.node.kind == "Lambda"
    return False
