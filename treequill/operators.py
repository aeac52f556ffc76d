"""The signs of operators, their kinds, and which of them bind more tightly."""

# The kind of an operator with two sides, and its rank: a higher one binds more tightly.
BINARY = {
    "|": ("BitOr", 8),
    "^": ("BitXor", 9),
    "&": ("BitAnd", 10),
    "<<": ("LShift", 11),
    ">>": ("RShift", 11),
    "+": ("Add", 12),
    "-": ("Sub", 12),
    "*": ("Mult", 13),
    "@": ("MatMult", 13),
    "/": ("Div", 13),
    "//": ("FloorDiv", 13),
}
UNARY = {"+": "UAdd", "-": "USub", "~": "Invert"}
COMPARISONS = {
    "==": "Eq", "!=": "NotEq", "<": "Lt", "<=": "LtE", ">": "Gt", ">=": "GtE",
    "is": "Is", "is not": "IsNot", "in": "In", "not in": "NotIn",
}
AUGMENTED = {
    "+=": "Add", "-=": "Sub", "*=": "Mult", "@=": "MatMult", "/=": "Div", "//=": "FloorDiv", "**=": "Pow",
    "<<=": "LShift", ">>=": "RShift", "|=": "BitOr", "^=": "BitXor", "&=": "BitAnd",
}
