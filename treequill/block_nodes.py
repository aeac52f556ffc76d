"""The blocks of a program, and the block that each node of it belongs to."""

from treequill.nodes import Node, fields_of, nodes_of

KIND_OF_BLOCK = {
    "Module": "module",
    "Expression": "module",
    "FunctionDef": "function",
    "AsyncFunctionDef": "function",
    "Lambda": "function",
    "ClassDef": "class",
    "ListComp": "comprehension",
    "SetComp": "comprehension",
    "DictComp": "comprehension",
    "GeneratorExp": "comprehension",
}
DECLARING = ("Global", "Nonlocal")
# The field with the name that a node of this kind binds.
BINDING_FIELDS = {
    "arg": "arg",
    "FunctionDef": "name",
    "AsyncFunctionDef": "name",
    "ClassDef": "name",
    "ExceptHandler": "name",
    "MatchStar": "name",
    "MatchAs": "name",
    "MatchMapping": "rest",
}
# What belongs to the block around: fields of a node that begins a block, and fields of nodes that belong to it.
OUTER_FIELDS = ("decorator_list", "returns", "bases", "keywords")
OUTER_PARTS = (("arguments", "defaults"), ("arguments", "kw_defaults"), ("arg", "annotation"))


class Block:
    """A block: the node that begins it, the block around it, those directly in it, and its names.

    The dicts have the names that it binds, uses and declares, each with the number in the order of walk of the
    first node that does so. The names in cells are free in blocks within it, and lead to it; those in passing
    are free in blocks within it, and lead to one around it.
    """

    def __init__(self, node, above):
        self.node = node
        self.above = above
        self.kind = KIND_OF_BLOCK[node.kind]
        self.inner_blocks = []
        self.bound = {}
        self.used = {}
        self.declared = {"Global": {}, "Nonlocal": {}}
        self.cells = {}
        self.passing = {}

    def names_in_it(self):
        """Return the ascending list of the names that are bound, used or declared in it, or pass it."""
        found = [self.bound, self.used, self.passing, self.declared["Global"], self.declared["Nonlocal"]]
        return sorted(set([name for names in found for name in names]))


class Member:
    """A node with the block that it belongs to; in_iter tells whether it stands in the iter of a comprehension."""

    def __init__(self, node, owner, in_iter):
        self.node = node
        self.owner = owner
        self.in_iter = in_iter


class Sorter:
    """Sorts the nodes of a tree into blocks: members are all nodes in the order of walk."""

    def __init__(self, tree):
        self.members = []
        self.blocks = []
        self.top = self.new_block(tree, None)

    def sort_all(self):
        # A list of what is left to look at, the first one last.
        waiting = [Member(self.top.node, self.top, False)]
        while waiting:
            member = waiting.pop()
            self.note_names(member)
            self.members.append(member)
            waiting += self.members_in(member)[::-1]

    def new_block(self, node, above):
        block = Block(node, above)
        self.blocks.append(block)
        return block

    def members_in(self, member):
        """Return the members that are the nodes in the fields of a node."""
        node = member.node
        inner = member.owner
        if node.kind in KIND_OF_BLOCK and node != self.top.node:
            inner = self.new_block(node, member.owner)
            member.owner.inner_blocks.append(inner)
        found = []
        for name in fields_of(node.kind):
            owner = _owner_of(member, name, inner)
            in_iter = member.in_iter or node.kind == "comprehension" and name == "iter"
            found += [Member(child, owner, in_iter) for child in nodes_of(node[name])]
        return found

    def note_names(self, member):
        """Note which names a node binds, uses or declares in its block."""
        node, owner = member.node, member.owner
        number = len(self.members)
        if node.kind in DECLARING:
            for name in node["names"]:
                owner.declared[node.kind].setdefault(name, number)
        elif node.kind == "Name" and node["ctx"].kind == "Load":
            owner.used.setdefault(node["id"], number)
        else:
            name = _bound_name(node)
            if name is not None:
                owner.bound.setdefault(name, number)


def _owner_of(member, name, inner):
    """Return the block that a field of a node belongs to; inner is the one that the node itself begins, if any."""
    node, owner = member.node, member.owner
    if inner != owner:
        return owner if name in OUTER_FIELDS else inner
    if (node.kind, name) in OUTER_PARTS:
        return owner.above
    if node.kind == "comprehension" and name == "iter" and node == owner.node["generators"][0]:
        return owner.above
    if node.kind == "NamedExpr" and name == "target":
        return block_of_target(owner)
    return owner


def block_of_target(block):
    """Return the block that the target of a NamedExpr in a block belongs to."""
    while block.kind == "comprehension":
        block = block.above
    return block


def _bound_name(node):
    """Return the name that a node binds, or None."""
    if node.kind == "Name":
        return node["id"]
    if node.kind in BINDING_FIELDS:
        return node[BINDING_FIELDS[node.kind]]
    if node.kind != "alias" or node["name"] == "*":
        return None
    if node["asname"] is not None:
        return node["asname"]
    # Only an alias of an Import has points.
    return node["name"].split(".")[0]
