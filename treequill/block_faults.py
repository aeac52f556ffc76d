"""Finds the first node that breaks the rules of blocks."""

from treequill.block_names import leads_to
from treequill.block_nodes import DECLARING
from treequill.errors import BadScope


def check_members(members):
    """Refuse the first node, in the order of walk, that breaks a rule."""
    for number, member in enumerate(members):
        name = _name_to_blame(member, number)
        if name is not None:
            raise BadScope(name, member.node.lineno, member.node.col_offset)


def _name_to_blame(member, number):
    """Return the name for which a node, the one of this number, breaks a rule, or None."""
    node, owner = member.node, member.owner
    if node.kind in DECLARING:
        for name in node["names"]:
            if _is_misdeclared(name, node.kind, owner, number):
                return name
    # Nothing is bound in a function ahead of its parameters.
    if node.kind == "arg" and owner.bound[node["arg"]] < number:
        return node["arg"]
    if node.kind == "NamedExpr" and _is_misnamed(member):
        return node["target"]["id"]
    return None


def _is_misdeclared(name, kind, owner, number):
    """Tell whether a Global or Nonlocal with this number breaks a rule by a name."""
    other = "Nonlocal" if kind == "Global" else "Global"
    if name in owner.declared[other]:
        return True
    # Parameters are nodes ahead of it, too.
    if owner.bound.get(name, number) < number or owner.used.get(name, number) < number:
        return True
    return kind == "Nonlocal" and leads_to(owner, name) is None


def _is_misnamed(member):
    """Tell whether a NamedExpr breaks a rule."""
    if member.in_iter:
        return True
    around = member.owner
    name = member.node["target"]["id"]
    while around.kind == "comprehension":
        # All names that a comprehension binds are those of its targets.
        if name in around.bound:
            return True
        around = around.above
    return member.owner.kind == "comprehension" and around.kind == "class"
