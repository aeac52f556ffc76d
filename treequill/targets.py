"""Which expressions can be targets, and how they become targets."""

from treequill.nodes import Node

SINGLE = ("Name", "Attribute", "Subscript")
SEVERAL = ("Tuple", "List")


def can_be_target(node, stars):
    """Tell whether an expression can be a target; stars tells whether Starred ones may stand in it."""
    if node.kind in SEVERAL:
        return all([_can_be_element(item, stars) for item in node["elts"]])
    return node.kind in SINGLE


def _can_be_element(node, stars):
    if node.kind == "Starred":
        return stars and can_be_target(node["value"], stars)
    return can_be_target(node, stars)


def set_context(node, word):
    """Give a target, its elements and the values of Starred ones in it a context."""
    node["ctx"] = Node(word)
    if node.kind in SEVERAL:
        for item in node["elts"]:
            set_context(item, word)
    elif node.kind == "Starred":
        set_context(node["value"], word)
