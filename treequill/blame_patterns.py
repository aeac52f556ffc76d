"""What cannot stand in patterns."""

from treequill.plain import is_int
from treequill.values import Float, Imaginary, Octets


def wrong_capture(node):
    """Tell whether a pattern captures by a name that is none, or lacks one."""
    if node.kind == "MatchMapping":
        return node["rest"] == "_"
    if node.kind == "MatchAs":
        return node["name"] == "_" or node["name"] is None and node["pattern"] is not None
    return node.kind == "MatchStar" and node["name"] == "_"


def misplaced_in_pattern(spot):
    """Tell whether a node stands at a place of a pattern that takes other nodes."""
    node = spot.node
    if spot.stands_in("MatchValue", "value"):
        return not _is_literal(node) and not _is_dotted(node)
    if spot.stands_in("MatchMapping", "keys"):
        return not _is_literal(node) and not _is_attribute(node) and not _is_singleton(node)
    if spot.stands_in("MatchClass", "cls"):
        return not _is_free_name(node) and not _is_dotted(node)
    return node.kind == "MatchStar" and not spot.stands_in("MatchSequence", "patterns")


def _is_literal(node):
    if node.kind == "Constant" and isinstance(node["value"], (str, Octets)):
        return True
    if node.kind != "BinOp":
        return _is_signed_number(node)
    return (
        node["op"].kind in ("Add", "Sub")
        and _is_signed_number(node["left"])
        and not _is_imaginary(node["left"])
        and node["right"].kind == "Constant"
        and _is_imaginary(node["right"])
    )


def _is_signed_number(node):
    """Tell whether a node is a number, perhaps with a minus sign."""
    if node.kind == "UnaryOp" and node["op"].kind == "USub":
        node = node["operand"]
    return node.kind == "Constant" and (is_int(node["value"]) or isinstance(node["value"], (Float, Imaginary)))


def _is_imaginary(node):
    """Tell whether a number, perhaps with a minus sign, is an imaginary one."""
    number = node["operand"] if node.kind == "UnaryOp" else node
    return isinstance(number["value"], Imaginary)


def _is_singleton(node):
    if node.kind != "Constant":
        return False
    return node["value"] is None or node["value"] is True or node["value"] is False


def _first_name(node):
    """Return the name that attributes stand behind, or None if it is another expression."""
    while node.kind == "Attribute":
        node = node["value"]
    return node["id"] if node.kind == "Name" else None


def _is_attribute(node):
    return node.kind == "Attribute" and _first_name(node) is not None


def _is_dotted(node):
    return _is_attribute(node) and _first_name(node) != "_"


def _is_free_name(node):
    return node.kind == "Name" and node["id"] != "_"
