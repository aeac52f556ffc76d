"""Writes statements, as lists of lines."""

from treequill.ranks import ANYTHING, EXPRESSION, PRIMARY
from treequill.write_expressions import (
    BINARY_SIGNS, IN_SLICE, arguments_text, element_text, expression_text, listing_text, parameters_text, plain_text,
    result_text,
)
from treequill.write_patterns import whole_pattern_text

INDENTATION = "    "


def statement_lines(node):
    """Return the lines of a statement; its own ones are not indented."""
    if node.kind in SIMPLE_WRITERS:
        write = SIMPLE_WRITERS[node.kind]
        return [write(node)]
    write = COMPOUND_WRITERS[node.kind]
    return write(node)


def body_lines(statements):
    lines = []
    for statement in statements:
        lines += statement_lines(statement)
    return lines


def _block(head, statements):
    """Return the lines of a head, and of statements below it; none if there are no statements."""
    if not statements:
        return []
    return [head] + _indented(body_lines(statements))


def _indented(lines):
    return [INDENTATION + line for line in lines]


def _with_word(word, text):
    return f"{word} {text}" if text else word


def _return(node):
    return _with_word("return", "" if node["value"] is None else listing_text(node["value"]))


def _delete(node):
    return "del " + ", ".join([expression_text(target, PRIMARY) for target in node["targets"]])


def _assign(node):
    targets = [expression_text(target, ANYTHING) for target in node["targets"]]
    return " = ".join(targets + [result_text(node["value"])])


def _aug_assign(node):
    sign = BINARY_SIGNS[node["op"].kind]
    return f"{expression_text(node['target'], EXPRESSION)} {sign}= {result_text(node['value'])}"


def _ann_assign(node):
    target = expression_text(node["target"], EXPRESSION)
    if node["target"].kind == "Name" and node["simple"] == 0:
        target = f"({target})"
    text = f"{target}: {plain_text(node['annotation'])}"
    return text if node["value"] is None else f"{text} = {result_text(node['value'])}"


def _raise(node):
    text = _with_word("raise", "" if node["exc"] is None else plain_text(node["exc"]))
    return text if node["cause"] is None else f"{text} from {plain_text(node['cause'])}"


def _assert(node):
    text = "assert " + plain_text(node["test"])
    return text if node["msg"] is None else f"{text}, {plain_text(node['msg'])}"


def _aliases_text(names):
    return ", ".join([alias["name"] + _as_text(alias["asname"]) for alias in names])


def _as_text(name):
    return "" if name is None else f" as {name}"


def _import(node):
    return "import " + _aliases_text(node["names"])


def _import_from(node):
    return f"from {'.' * node['level']}{node['module'] or ''} import {_aliases_text(node['names'])}"


def _global(node):
    return "global " + ", ".join(node["names"])


def _nonlocal(node):
    return "nonlocal " + ", ".join(node["names"])


def _expr(node):
    return result_text(node["value"])


def _single_word(node):
    return node.kind.lower()


def _function(node):
    return _function_lines("def", node)


def _async_function(node):
    return _function_lines("async def", node)


def _function_lines(word, node):
    returns = "" if node["returns"] is None else f" -> {plain_text(node['returns'])}"
    head = f"{word} {node['name']}({parameters_text(node['args'])}){returns}:"
    return _decorator_lines(node) + _block(head, node["body"])


def _decorator_lines(node):
    return ["@" + element_text(decorator) for decorator in node["decorator_list"]]


def _class(node):
    arguments = arguments_text(node["bases"], node["keywords"])
    head = f"class {node['name']}({arguments}):" if arguments else f"class {node['name']}:"
    return _decorator_lines(node) + _block(head, node["body"])


def _for(node):
    return _for_lines("for", node)


def _async_for(node):
    return _for_lines("async for", node)


def _for_lines(word, node):
    head = f"{word} {expression_text(node['target'], ANYTHING)} in {listing_text(node['iter'])}:"
    return _block(head, node["body"]) + _block("else:", node["orelse"])


def _while(node):
    head = f"while {element_text(node['test'])}:"
    return _block(head, node["body"]) + _block("else:", node["orelse"])


def _if(node):
    lines = _block(f"if {element_text(node['test'])}:", node["body"])
    orelse = node["orelse"]
    if len(orelse) != 1 or orelse[0].kind != "If":
        return lines + _block("else:", orelse)
    first, *others = _if(orelse[0])
    return lines + ["el" + first] + others


def _with(node):
    return _block(f"with {_items_text(node['items'])}:", node["body"])


def _async_with(node):
    return _block(f"async with {_items_text(node['items'])}:", node["body"])


def _items_text(items):
    texts = []
    for item in items:
        text = plain_text(item["context_expr"])
        if len(items) == 1 and _reads_as_items(item):
            text = f"({text})"
        if item["optional_vars"] is not None:
            text += " as " + expression_text(item["optional_vars"], PRIMARY)
        texts.append(text)
    return ", ".join(texts)


def _reads_as_items(item):
    """Tell whether an item that is a tuple in brackets would be read as the items of a with."""
    context = item["context_expr"]
    if context.kind != "Tuple" or not context["elts"] or item["optional_vars"] is not None:
        return False
    return all([element.kind not in ("Starred", "NamedExpr") for element in context["elts"]])


def _match(node):
    subject = expression_text(node["subject"], ANYTHING, "subject", IN_SLICE)
    lines = [f"match {subject}:"]
    for row in node["cases"]:
        guard = "" if row["guard"] is None else " if " + element_text(row["guard"])
        head = f"case {whole_pattern_text(row['pattern'])}{guard}:"
        lines += _indented(_block(head, row["body"]))
    return lines


def _try(node):
    lines = _block("try:", node["body"])
    for handler in node["handlers"]:
        error = "" if handler["exc"] is None else plain_text(handler["exc"])
        head = _with_word("except", error) + _as_text(handler["name"])
        lines += _block(head + ":", handler["body"])
    return lines + _block("else:", node["orelse"]) + _block("finally:", node["finalbody"])


SIMPLE_WRITERS = {
    "Return": _return,
    "Delete": _delete,
    "Assign": _assign,
    "AugAssign": _aug_assign,
    "AnnAssign": _ann_assign,
    "Raise": _raise,
    "Assert": _assert,
    "Import": _import,
    "ImportFrom": _import_from,
    "Global": _global,
    "Nonlocal": _nonlocal,
    "Expr": _expr,
    "Pass": _single_word,
    "Break": _single_word,
    "Continue": _single_word,
}
COMPOUND_WRITERS = {
    "FunctionDef": _function,
    "AsyncFunctionDef": _async_function,
    "ClassDef": _class,
    "For": _for,
    "AsyncFor": _async_for,
    "While": _while,
    "If": _if,
    "With": _with,
    "AsyncWith": _async_with,
    "Match": _match,
    "Try": _try,
}
