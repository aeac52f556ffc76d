"""The values of literals."""

from treequill.errors import BadNode, NotLiteral
from treequill.nodes import Node
from treequill.plain import is_int, is_singleton
from treequill.reading import parse
from treequill.values import Float

# The kinds that have values, and their fields with nodes that have values, too.
PARTS = {
    "Expression": ("body",),
    "Constant": (),
    "Tuple": ("elts",),
    "List": ("elts",),
    "Dict": ("keys", "values"),
}


def literal_eval(node_or_text):
    """Return the value of a literal, given as a node or as a text."""
    if isinstance(node_or_text, str):
        node = parse(node_or_text, "eval")
    elif isinstance(node_or_text, Node):
        node = node_or_text
    else:
        raise BadNode()
    path = _path_to_other(node, ())
    if path is not None:
        raise NotLiteral(path)
    return _value_of(node)


def _path_to_other(node, path):
    """Return the path of the first node that is no literal, or None."""
    if _is_signed(node):
        return None
    if node.kind not in PARTS or node.kind == "Dict" and not all([_is_key(key) for key in node["keys"]]):
        return path
    for name in PARTS[node.kind]:
        value = node[name]
        if isinstance(value, Node):
            found = _path_to_other(value, (*path, name))
        else:
            found = _path_in_list(value, name, path)
        if found is not None:
            return found
    return None


def _path_in_list(nodes, name, path):
    for index, node in enumerate(nodes):
        found = _path_to_other(node, (*path, (name, index)))
        if found is not None:
            return found
    return None


def _is_signed(node):
    """Tell whether a node is a number with a sign."""
    if node.kind != "UnaryOp" or node["op"].kind not in ("UAdd", "USub"):
        return False
    operand = node["operand"]
    return operand.kind == "Constant" and (is_int(operand["value"]) or isinstance(operand["value"], Float))


def _is_key(node):
    """Tell whether a key of a Dict may be one of a dict."""
    if node is None:
        return False
    if node.kind == "Tuple":
        return all([_is_key(item) for item in node["elts"]])
    if node.kind == "Constant":
        value = node["value"]
        return is_singleton(value) or is_int(value) or isinstance(value, str)
    return _is_signed(node) and is_int(node["operand"]["value"])


def _value_of(node):
    match node.kind:
        case "Expression":
            return _value_of(node["body"])
        case "Constant":
            return node["value"]
        case "Tuple":
            return tuple([_value_of(item) for item in node["elts"]])
        case "List":
            return [_value_of(item) for item in node["elts"]]
        case "Dict":
            return _dict_of(node)
        case _:
            return _signed_value(node)


def _dict_of(node):
    made = {}
    for key, value in zip(node["keys"], node["values"]):
        made[_value_of(key)] = _value_of(value)
    return made


def _signed_value(node):
    value = node["operand"]["value"]
    if node["op"].kind == "UAdd":
        return value
    return Float(-value.mantissa, value.exponent) if isinstance(value, Float) else -value
