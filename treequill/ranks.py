"""The ranks of expressions: one below what its place wants is put in brackets."""

# What places want: anything, a test or an element, a plain expression, and so on.
ANYTHING = 0
ELEMENT = 1
EXPRESSION = 2
DISJUNCTION = 4
CONJUNCTION = 5
INVERSION = 6
OPERAND = 8
SIGNED = 14
AWAITED = 16
PRIMARY = 17

KIND_RANKS = {
    "Yield": 0,
    "YieldFrom": 0,
    "NamedExpr": 1,
    "Lambda": 2,
    "IfExp": 2,
    "Compare": 7,
    "Await": 16,
}
OPERATOR_RANKS = {
    "Or": 4,
    "And": 5,
    "Not": 6,
    "BitOr": 8,
    "BitXor": 9,
    "BitAnd": 10,
    "LShift": 11,
    "RShift": 11,
    "Add": 12,
    "Sub": 12,
    "Mult": 13,
    "MatMult": 13,
    "Div": 13,
    "FloorDiv": 13,
    "UAdd": 14,
    "USub": 14,
    "Invert": 14,
    "Pow": 15,
}


def rank_of(node):
    """Return the rank of an expression."""
    if node.kind in ("BoolOp", "BinOp", "UnaryOp"):
        return OPERATOR_RANKS[node["op"].kind]
    if node.kind == "Tuple":
        return ANYTHING if node["elts"] else PRIMARY
    return KIND_RANKS.get(node.kind, PRIMARY)
