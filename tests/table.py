"""The table of kinds as promise 14 writes it, read apart from the package, and samples of every kind."""

import re

from treequill.nodes import Node

ROWS = """
| Module; Expression | body STMT*; body EXPR |
| FunctionDef@ AsyncFunctionDef@ | name NAME, args arguments, body STMT+, decorator_list EXPR*, returns EXPR? |
| ClassDef@ | name NAME, bases EXPR*, keywords keyword*, body STMT+, decorator_list EXPR* |
| Return@ Delete@ | value EXPR?; targets EXPR+ |
| Assign@ AugAssign@ | targets EXPR+, value EXPR; target EXPR, op OPERATOR, value EXPR |
| AnnAssign@ | target EXPR, annotation EXPR, value EXPR?, simple 0 or 1 |
| For@ AsyncFor@ | target EXPR, iter EXPR, body STMT+, orelse STMT* |
| While@ If@ | test EXPR, body STMT+, orelse STMT* |
| With@ AsyncWith@ | items withitem+, body STMT+ |
| Match@ | subject EXPR, cases match_case+ |
| Raise@ Assert@ | exc EXPR?, cause EXPR?; test EXPR, msg EXPR? |
| Try@ | body STMT+, handlers ExceptHandler*, orelse STMT*, finalbody STMT* |
| Import@ ImportFrom@ | names alias+; module DOTTED?, names alias+, level COUNT |
| Global@ Nonlocal@ | names NAME+ |
| Expr@ | value EXPR |
| Pass@ Break@ Continue@ | |
| BoolOp@ | op And or Or, values EXPR+ |
| NamedExpr@ | target EXPR, value EXPR |
| BinOp@ UnaryOp@ | left EXPR, op OPERATOR, right EXPR; op UNARY, operand EXPR |
| Lambda@ IfExp@ | args arguments, body EXPR; test EXPR, body EXPR, orelse EXPR |
| Dict@ Set@ | keys (EXPR?)*, values EXPR*; elts EXPR+ |
| ListComp@ SetComp@ GeneratorExp@ | elt EXPR, generators comprehension+ |
| DictComp@ | key EXPR, value EXPR, generators comprehension+ |
| Await@ Yield@ YieldFrom@ | value EXPR; value EXPR?; value EXPR |
| Compare@ | left EXPR, ops COMPARISON+, comparators EXPR+ |
| Call@ | func EXPR, args EXPR*, keywords keyword* |
| FormattedValue@ JoinedStr@ | value EXPR, conversion -1, 97, 114 or 115, format_spec JoinedStr?; values EXPR* |
| Constant@ | value VALUE |
| Attribute@ Subscript@ | value EXPR, attr NAME, ctx CONTEXT; value EXPR, slice EXPR, ctx CONTEXT |
| Starred@ Name@ | value EXPR, ctx CONTEXT; id NAME, ctx CONTEXT |
| List@ Tuple@ | elts EXPR*, ctx CONTEXT |
| Slice@ | lower EXPR?, upper EXPR?, step EXPR? |
| comprehension | target EXPR, iter EXPR, ifs EXPR*, is_async 0 or 1 |
| ExceptHandler@ | exc EXPR?, name NAME?, body STMT+ |
| arguments | posonlyargs arg*, args arg*, vararg arg?, kwonlyargs arg*, kw_defaults (EXPR?)*, kwarg arg?, defaults EXPR* |
| arg@ keyword@ alias@ | arg NAME, annotation EXPR?; arg NAME?, value EXPR; name DOTTED, asname NAME? |
| withitem match_case | context_expr EXPR, optional_vars EXPR?; pattern PATTERN, guard EXPR?, body STMT+ |
| MatchValue@ MatchSingleton@ | value EXPR; value None, True or False |
| MatchSequence@ MatchOr@ | patterns PATTERN*; patterns PATTERN+ |
| MatchMapping@ | keys EXPR*, patterns PATTERN*, rest NAME? |
| MatchClass@ | cls EXPR, patterns PATTERN*, kwd_attrs NAME*, kwd_patterns PATTERN* |
| MatchStar@ MatchAs@ | name NAME?; pattern PATTERN?, name NAME? |
| And Or; Invert Not UAdd USub; Load Store Del | no fields (boolean operators; UNARY; CONTEXT) |
| Add Sub Mult MatMult Div FloorDiv Pow LShift RShift BitOr BitXor BitAnd | no fields (OPERATOR) |
| Eq NotEq Lt LtE Gt GtE Is IsNot In NotIn | no fields (COMPARISON) |
"""

RULE = re.compile(
    r"(\w+) (\(EXPR\?\)\*|-1, 97, 114 or 115|None, True or False|0 or 1|And or Or|\w+[?*+]?)"
)


def read_table():
    """Return a dict from each kind to the list of its pairs (name, rule)."""
    table = {}
    for row in ROWS.strip().split("\n"):
        _, kinds, fields, _ = row.split("|")
        kinds = re.findall(r"\w+", kinds)
        parts = [""] if "no fields" in fields else fields.split(";")
        if len(parts) == 1:
            parts = parts * len(kinds)
        assert len(parts) == len(kinds), row
        for kind, part in zip(kinds, parts):
            assert kind not in table
            table[kind] = RULE.findall(part)
            assert ", ".join(f"{name} {rule}" for name, rule in table[kind]) == part.strip()
    return table


TABLE = read_table()
KINDS = list(TABLE)
MARKED = re.findall(r"(\w+)@", ROWS)
GROUPS = {
    "STMT": KINDS[KINDS.index("FunctionDef"):KINDS.index("Continue") + 1],
    "EXPR": KINDS[KINDS.index("BoolOp"):KINDS.index("Slice") + 1],
    "PATTERN": [kind for kind in KINDS if kind.startswith("Match") and kind != "Match"],
    "And or Or": ["And", "Or"],
    "UNARY": ["Invert", "Not", "UAdd", "USub"],
    "CONTEXT": ["Load", "Store", "Del"],
    "OPERATOR": KINDS[KINDS.index("Add"):KINDS.index("BitAnd") + 1],
    "COMPARISON": KINDS[KINDS.index("Eq"):],
}
PLAIN = {
    "NAME": "a",
    "DOTTED": "a.b",
    "COUNT": 0,
    "VALUE": 1,
    "0 or 1": 0,
    "-1, 97, 114 or 115": -1,
    "None, True or False": True,
}
SMALL = {"STMT": "Pass", "EXPR": "Name", "PATTERN": "MatchStar"}


def split_rule(rule):
    """Return what one value of a field is, and which mark it has."""
    if rule == "(EXPR?)*":
        return "EXPR", "(?)*"
    if rule[-1] in "?*+":
        return rule[:-1], rule[-1]
    return rule, ""


def sample_of(rule):
    """Return a value that is right for a field with this rule; lists have one item."""
    word, mark = split_rule(rule)
    if word in PLAIN:
        value = PLAIN[word]
    elif word in SMALL:
        value = sample(SMALL[word])
    else:
        value = sample(GROUPS.get(word, [word])[0])
    return [value] if mark in ("*", "+", "(?)*") else value


def sample(kind):
    """Return a tree of a kind in which every field has a value that is not None, and every list one item."""
    return Node(kind, *[sample_of(rule) for _, rule in TABLE[kind]])
