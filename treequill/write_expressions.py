"""Writes expressions, with as few brackets as their places allow."""

from treequill.literal_text import escaped, value_text
from treequill.plain import is_int
from treequill.ranks import (
    ANYTHING, AWAITED, CONJUNCTION, DISJUNCTION, ELEMENT, EXPRESSION, INVERSION, OPERAND, PRIMARY, SIGNED, rank_of,
)

BINARY_SIGNS = {
    "Add": "+", "Sub": "-", "Mult": "*", "MatMult": "@", "Div": "/", "FloorDiv": "//", "Pow": "**",
    "LShift": "<<", "RShift": ">>", "BitOr": "|", "BitXor": "^", "BitAnd": "&",
}
UNARY_SIGNS = {"Invert": "~", "Not": "not ", "UAdd": "+", "USub": "-"}
COMPARISON_SIGNS = {
    "Eq": "==", "NotEq": "!=", "Lt": "<", "LtE": "<=", "Gt": ">", "GtE": ">=",
    "Is": "is", "IsNot": "is not", "In": "in", "NotIn": "not in",
}
CONVERSIONS = {-1: "", 97: "!a", 114: "!r", 115: "!s"}
# What has brackets at places that take a tuple without them.
IN_RESULT = ("NamedExpr",)
IN_LISTING = ("NamedExpr", "Yield", "YieldFrom")
IN_SLICE = ("Yield", "YieldFrom")


def expression_text(node, wanted, spot="", barred=()):
    """Return the text of an expression, in brackets if its rank is below the wanted one, or its kind is barred.

    The spot tells of its place what matters in it: slice; subject; argument, where the value of a Starred is
    any expression; field, for one that no bracket within a field of a JoinedStr is around; and brackets, if
    it has some. Targets need no spot: each of them is a tuple, or an expression of the highest rank.
    """
    bare = spot == "field" and node.kind == "Lambda"
    write = WRITERS[node.kind]
    if rank_of(node) >= wanted and node.kind not in barred and not bare:
        return write(node, spot)
    return f"({write(node, 'brackets')})"


def result_text(node):
    """Return the text of what is assigned, or stands alone."""
    return expression_text(node, ANYTHING, "", IN_RESULT)


def listing_text(node, spot=""):
    """Return the text of what is returned, yielded or gone through by for."""
    return expression_text(node, ANYTHING, spot, IN_LISTING)


def plain_text(node):
    """Return the text of an expression at one of the many places that take any but tuples and such."""
    return expression_text(node, EXPRESSION)


def element_text(node):
    return expression_text(node, ELEMENT)


def _bool_op(node, spot):
    if node["op"].kind == "Or":
        return " or ".join([expression_text(value, CONJUNCTION) for value in node["values"]])
    return " and ".join([expression_text(value, INVERSION) for value in node["values"]])


def _named_expr(node, spot):
    return f"{node['target']['id']} := {plain_text(node['value'])}"


def _bin_op(node, spot):
    own = rank_of(node)
    left, right = own, own + 1
    if node["op"].kind == "Pow":
        left, right = AWAITED, SIGNED
    sign = BINARY_SIGNS[node["op"].kind]
    return f"{expression_text(node['left'], left)} {sign} {expression_text(node['right'], right)}"


def _unary_op(node, spot):
    wanted = INVERSION if node["op"].kind == "Not" else SIGNED
    return UNARY_SIGNS[node["op"].kind] + expression_text(node["operand"], wanted)


def _lambda(node, spot):
    parameters = parameters_text(node["args"])
    head = f"lambda {parameters}" if parameters else "lambda"
    return f"{head}: {plain_text(node['body'])}"


def _if_exp(node, spot):
    body = expression_text(node["body"], DISJUNCTION)
    test = expression_text(node["test"], DISJUNCTION)
    return f"{body} if {test} else {expression_text(node['orelse'], EXPRESSION, _field_or_none(spot))}"


def _field_or_none(spot):
    return spot if spot == "field" else ""


def _dict(node, spot):
    pairs = []
    for key, value in zip(node["keys"], node["values"]):
        if key is None:
            pairs.append("**" + expression_text(value, OPERAND))
        else:
            pairs.append(f"{plain_text(key)}: {plain_text(value)}")
    return "{" + ", ".join(pairs) + "}"


def _set(node, spot):
    return "{" + ", ".join([element_text(item) for item in node["elts"]]) + "}"


def _list_comp(node, spot):
    return "[" + element_text(node["elt"]) + _generators_text(node) + "]"


def _set_comp(node, spot):
    return "{" + element_text(node["elt"]) + _generators_text(node) + "}"


def _generator_exp(node, spot):
    return "(" + element_text(node["elt"]) + _generators_text(node) + ")"


def _dict_comp(node, spot):
    pair = f"{plain_text(node['key'])}: {plain_text(node['value'])}"
    return "{" + pair + _generators_text(node) + "}"


def _generators_text(node):
    text = ""
    for row in node["generators"]:
        text += " async for " if row["is_async"] == 1 else " for "
        text += f"{expression_text(row['target'], ANYTHING)} in {expression_text(row['iter'], DISJUNCTION)}"
        for test in row["ifs"]:
            text += " if " + expression_text(test, DISJUNCTION)
    return text


def _await(node, spot):
    return "await " + expression_text(node["value"], PRIMARY)


def _yield(node, spot):
    if node["value"] is None:
        return "yield"
    return "yield " + listing_text(node["value"], _field_or_none(spot))


def _yield_from(node, spot):
    return "yield from " + expression_text(node["value"], EXPRESSION, _field_or_none(spot))


def _compare(node, spot):
    text = expression_text(node["left"], OPERAND)
    for op, right in zip(node["ops"], node["comparators"]):
        text += f" {COMPARISON_SIGNS[op.kind]} {expression_text(right, OPERAND)}"
    return text


def _call(node, spot):
    func = expression_text(node["func"], PRIMARY)
    args = node["args"]
    if len(args) == 1 and args[0].kind == "GeneratorExp" and not node["keywords"]:
        return func + expression_text(args[0], PRIMARY)
    return f"{func}({arguments_text(args, node['keywords'])})"


def arguments_text(args, keywords):
    """Return the text of the arguments of a Call, or of the bases and keywords of a class."""
    parts = [expression_text(arg, ELEMENT, "argument") for arg in args]
    for keyword in keywords:
        head = "**" if keyword["arg"] is None else keyword["arg"] + "="
        parts.append(head + plain_text(keyword["value"]))
    return ", ".join(parts)


def _joined_str(node, spot):
    return f"f'{_pieces_text(node, False)}'"


def _pieces_text(node, in_spec):
    """Return the text between the quotes of a JoinedStr, or behind the colon of a field."""
    text = ""
    for piece in node["values"]:
        if piece.kind == "FormattedValue":
            text += _field_text(piece)
        elif in_spec:
            text += piece["value"]
        else:
            text += escaped(piece["value"], "'").replace("{", "{{").replace("}", "}}")
    return text


def _field_text(node):
    text = expression_text(node["value"], ANYTHING, "field", IN_RESULT)
    if text.startswith("{"):
        text = " " + text
    text += CONVERSIONS[node["conversion"]]
    if node["format_spec"] is not None:
        text += ":" + _pieces_text(node["format_spec"], True)
    return "{" + text + "}"


def _constant(node, spot):
    return value_text(node["value"])


def _attribute(node, spot):
    value = node["value"]
    # The point would be a part of the number.
    space = " " if value.kind == "Constant" and is_int(value["value"]) else ""
    return f"{expression_text(value, PRIMARY)}{space}.{node['attr']}"


def _subscript(node, spot):
    item = expression_text(node["slice"], ANYTHING, "slice", IN_SLICE)
    return f"{expression_text(node['value'], PRIMARY)}[{item}]"


def _starred(node, spot):
    return "*" + expression_text(node["value"], EXPRESSION if spot == "argument" else OPERAND)


def _name(node, spot):
    return node["id"]


def _list(node, spot):
    return "[" + ", ".join([element_text(item) for item in node["elts"]]) + "]"


def _tuple(node, spot):
    elts = node["elts"]
    if not elts:
        return "()"
    wanted, inner = EXPRESSION, _field_or_none(spot)
    if spot == "slice":
        wanted, inner = ELEMENT, "argument"
    elif spot in ("subject", "brackets"):
        wanted = ELEMENT
    text = ", ".join([expression_text(item, wanted, inner) for item in elts])
    if len(elts) > 1 or spot == "slice" and elts[0].kind == "Starred":
        return text
    return text + ","


def _slice(node, spot):
    lower, upper, step = node["lower"], node["upper"], node["step"]
    text = "" if lower is None else plain_text(lower)
    text += ":" if upper is None else ":" + plain_text(upper)
    return text if step is None else f"{text}:{plain_text(step)}"


def parameters_text(node):
    """Return the text of the parameters of a function or a lambda."""
    ahead = node["posonlyargs"] + node["args"]
    without = len(ahead) - len(node["defaults"])
    defaults = [None] * without + node["defaults"]
    parts = [_parameter_text(arg, default) for arg, default in zip(ahead, defaults)]
    if node["posonlyargs"]:
        parts.insert(len(node["posonlyargs"]), "/")
    if node["vararg"] is not None:
        parts.append("*" + _parameter_text(node["vararg"], None))
    elif node["kwonlyargs"]:
        parts.append("*")
    parts += [_parameter_text(arg, default) for arg, default in zip(node["kwonlyargs"], node["kw_defaults"])]
    if node["kwarg"] is not None:
        parts.append("**" + _parameter_text(node["kwarg"], None))
    return ", ".join(parts)


def _parameter_text(arg, default):
    text = arg["arg"]
    if arg["annotation"] is not None:
        text += ": " + plain_text(arg["annotation"])
    return text if default is None else f"{text}={plain_text(default)}"


WRITERS = {
    "BoolOp": _bool_op,
    "NamedExpr": _named_expr,
    "BinOp": _bin_op,
    "UnaryOp": _unary_op,
    "Lambda": _lambda,
    "IfExp": _if_exp,
    "Dict": _dict,
    "Set": _set,
    "ListComp": _list_comp,
    "SetComp": _set_comp,
    "GeneratorExp": _generator_exp,
    "DictComp": _dict_comp,
    "Await": _await,
    "Yield": _yield,
    "YieldFrom": _yield_from,
    "Compare": _compare,
    "Call": _call,
    "JoinedStr": _joined_str,
    "Constant": _constant,
    "Attribute": _attribute,
    "Subscript": _subscript,
    "Starred": _starred,
    "Name": _name,
    "List": _list,
    "Tuple": _tuple,
    "Slice": _slice,
}
