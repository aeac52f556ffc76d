"""Writes a tree as a text."""

from treequill.blame import path_to_blame
from treequill.errors import BadNode, NoText
from treequill.kinds import GROUPS
from treequill.nodes import is_tree
from treequill.ranks import ELEMENT
from treequill.write_expressions import expression_text, listing_text
from treequill.write_statements import body_lines, statement_lines


def unparse(node):
    """Return the text of a Module, an Expression, a statement or an expression."""
    if not is_tree(node):
        raise BadNode()
    is_statement = node.kind in GROUPS["STMT"]
    if node.kind not in ("Module", "Expression") and node.kind not in GROUPS["EXPR"] and not is_statement:
        raise BadNode()
    path = path_to_blame(node)
    if path is not None:
        raise NoText(path)
    if node.kind == "Module":
        return "\n".join(body_lines(node["body"]))
    if is_statement:
        return "\n".join(statement_lines(node))
    return _whole_expression_text(node["body"] if node.kind == "Expression" else node)


def _whole_expression_text(node):
    """Return the text of the body of an Expression, where no star stands outside of brackets."""
    if node.kind == "Tuple" and any([element.kind == "Starred" for element in node["elts"]]):
        return expression_text(node, ELEMENT)
    return listing_text(node)
