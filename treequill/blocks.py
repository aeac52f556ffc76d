"""Tells in which block each name of a program is bound."""

from treequill.block_faults import check_members
from treequill.block_names import note_free_names, word_for
from treequill.block_nodes import Sorter
from treequill.errors import BadNode
from treequill.nodes import is_tree

WHOLE = ("Module", "Expression")


def scopes(tree):
    """Return the block of a Module or an Expression: a tuple of kind, name, names and the blocks in it."""
    if not is_tree(tree) or tree.kind not in WHOLE:
        raise BadNode()
    sorter = Sorter(tree)
    sorter.sort_all()
    check_members(sorter.members)
    note_free_names(sorter.blocks)
    return _told(sorter.top)


def _told(block):
    names = [(name, word_for(block, name)) for name in block.names_in_it()]
    return block.kind, _name_of(block), names, [_told(inner) for inner in block.inner_blocks]


def _name_of(block):
    kind = block.node.kind
    if kind in WHOLE:
        return "top"
    if kind == "Lambda":
        return "lambda"
    return kind if block.kind == "comprehension" else block.node["name"]
