"""Blocks and names by the words of DOC.md, section 15, one question at a time; and random programs with few names.

Nothing here is fast or clever: each answer looks through all nodes of the tree again.
"""

import random

from treequill.nodes import Node, fields_of

FUNCTIONS = ("FunctionDef", "AsyncFunctionDef", "Lambda")
COMPREHENSIONS = ("ListComp", "SetComp", "DictComp", "GeneratorExp")
BLOCKS = ("Module", "Expression", "ClassDef") + FUNCTIONS + COMPREHENSIONS
DECLARATIONS = ("Global", "Nonlocal")


class Program:
    """A tree with the place of each node in it: the node above, the field and the index."""

    def __init__(self, tree):
        self.tree = tree
        self.nodes = []
        self.above = {}
        self.homes = {}
        self.add(tree, None)
        for node in self.nodes:
            self.homes[id(node)] = self.home_of(node)

    def add(self, node, link):
        self.nodes.append(node)
        self.above[id(node)] = link
        for name in fields_of(node.kind):
            value = node[name]
            for index, item in enumerate(value if isinstance(value, list) else [value]):
                if isinstance(item, Node):
                    self.add(item, (node, name, index))

    def home_of(self, node):
        """Return the node of the block that a node belongs to, None for the tree itself."""
        while self.above[id(node)] is not None:
            above, field, index = self.above[id(node)]
            if above.kind == "NamedExpr" and field == "target":
                home = self.home_of(above)
                while home.kind in COMPREHENSIONS:
                    home = self.home_of(home)
                return home
            if above.kind == "arguments" and field in ("defaults", "kw_defaults"):
                node = self.above[id(above)][0]
            elif above.kind == "arg" and field == "annotation":
                arguments = self.above[id(above)][0]
                node = self.above[id(arguments)][0]
            elif above.kind == "comprehension" and field == "iter" and self.above[id(above)][2] == 0:
                node = self.above[id(above)][0]
            elif above.kind in BLOCKS and field not in ("decorator_list", "returns", "bases", "keywords"):
                return above
            else:
                node = above
        return None

    def members(self, block):
        return [node for node in self.nodes if self.homes[id(node)] is block]

    def inner(self, block):
        return [node for node in self.members(block) if node.kind in BLOCKS]

    def within(self, block):
        """Return all blocks within a block."""
        return [found for inner in self.inner(block) for found in [inner] + self.within(inner)]

    def bound(self, block):
        return [name for node in self.members(block) for name in bound_names(node)]

    def used(self, block):
        return [node["id"] for node in self.members(block) if node.kind == "Name" and node["ctx"].kind == "Load"]

    def declared(self, block, kind):
        return [name for node in self.members(block) if node.kind == kind for name in node["names"]]

    def leads_to(self, block, name):
        """Return the block that a name in a block leads to."""
        block = self.homes[id(block)]
        while block is not None and block is not self.tree:
            if block.kind != "ClassDef":
                as_global = name in self.declared(block, "Global")
                as_nonlocal = name in self.declared(block, "Nonlocal")
                binds = name in self.bound(block)
                if as_global or as_nonlocal or binds:
                    if not as_nonlocal or as_global:
                        return block if binds and not as_global else self.tree
            block = self.homes[id(block)]
        return self.tree

    def word(self, block, name):
        if block is self.tree or name in self.declared(block, "Global"):
            return "global"
        if name in self.declared(block, "Nonlocal"):
            return "free"
        if name in self.bound(block):
            if block.kind != "ClassDef":
                for inner in self.within(block):
                    if self.has(inner, name) and self.leads_to(inner, name) is block:
                        if self.word(inner, name) == "free":
                            return "cell"
            return "local"
        return "free" if self.leads_to(block, name) is not self.tree else "global"

    def has(self, block, name):
        """Tell whether a name is bound, used or declared in a block itself."""
        return (
            name in self.bound(block) or name in self.used(block) or name in self.declared(block, "Global")
            or name in self.declared(block, "Nonlocal")
        )

    def names(self, block):
        found = set(self.bound(block) + self.used(block))
        found.update(self.declared(block, "Global"), self.declared(block, "Nonlocal"))
        around, home = [], self.homes[id(block)]
        while home is not None:
            around.append(home)
            home = self.homes[id(home)]
        for inner in self.within(block):
            for name in set(self.bound(inner) + self.used(inner) + self.declared(inner, "Nonlocal")):
                leads = self.leads_to(inner, name)
                if self.word(inner, name) == "free" and leads is not self.tree and any(leads is one for one in around):
                    found.add(name)
        return sorted(found)

    def told(self, block=None):
        block = block or self.tree
        names = [(name, self.word(block, name)) for name in self.names(block)]
        return *title(block), names, [self.told(inner) for inner in self.inner(block)]

    def fault(self):
        """Return the name and the place of the first node that breaks a rule, or None."""
        for at, node in enumerate(self.nodes):
            name = None
            if node.kind in DECLARATIONS:
                name = self.declaration_fault(node, at)
            elif node.kind == "arg":
                above = self.above[id(node)][0]
                ahead = [other for other in self.nodes[:at] if other.kind == "arg" and self.above[id(other)][0] is above]
                if node["arg"] in [other["arg"] for other in ahead]:
                    name = node["arg"]
            elif node.kind == "NamedExpr" and self.is_misplaced(node):
                name = node["target"]["id"]
            if name is not None:
                return name, node.lineno, node.col_offset
        return None

    def declaration_fault(self, node, at):
        block = self.homes[id(node)]
        other = "Nonlocal" if node.kind == "Global" else "Global"
        for name in node["names"]:
            if node.kind == "Nonlocal" and (block is self.tree or self.leads_to(block, name) is self.tree):
                return name
            if name in self.declared(block, other):
                return name
            parameters = [part["arg"] for part in self.members(block) if part.kind == "arg"]
            ahead = [part for part in self.nodes[:at] if self.homes[id(part)] is block]
            loads = [part["id"] for part in ahead if part.kind == "Name" and part["ctx"].kind == "Load"]
            if name in parameters or name in loads or name in [had for part in ahead for had in bound_names(part)]:
                return name
        return None

    def is_misplaced(self, node):
        inner = node
        while self.above[id(inner)] is not None:
            above, field, _ = self.above[id(inner)]
            if above.kind == "comprehension" and field == "iter":
                return True
            inner = above
        block = self.homes[id(node)]
        if block.kind not in COMPREHENSIONS:
            return False
        while block.kind in COMPREHENSIONS:
            for row in block["generators"]:
                if node["target"]["id"] in target_names(row["target"]):
                    return True
            block = self.homes[id(block)]
        return block.kind == "ClassDef"


def title(block):
    if block.kind in ("Module", "Expression"):
        return "module", "top"
    if block.kind == "Lambda":
        return "function", "lambda"
    if block.kind == "ClassDef":
        return "class", block["name"]
    return ("comprehension", block.kind) if block.kind in COMPREHENSIONS else ("function", block["name"])


def target_names(node):
    """Return the names that a target binds, at any depth of Tuples, Lists and Starreds."""
    if node.kind == "Name":
        return [node["id"]]
    if node.kind == "Starred":
        return target_names(node["value"])
    return [name for item in node["elts"] for name in target_names(item)] if node.kind in ("Tuple", "List") else []


def bound_names(node):
    if node.kind == "Name" and node["ctx"].kind in ("Store", "Del"):
        return [node["id"]]
    if node.kind == "arg":
        return [node["arg"]]
    if node.kind in ("FunctionDef", "AsyncFunctionDef", "ClassDef"):
        return [node["name"]]
    if node.kind == "alias":
        name = node["asname"] or node["name"].split(".")[0]
        return [] if name == "*" else [name]
    if node.kind in ("ExceptHandler", "MatchStar", "MatchAs") and node["name"] is not None:
        return [node["name"]]
    if node.kind == "MatchMapping" and node["rest"] is not None:
        return [node["rest"]]
    return []


class Writer:
    """Writes random programs with few names, most of which keep the rules."""

    def __init__(self, seed, names="abcd", plain=False):
        self.chance = random.Random(seed)
        self.pool = names
        # Without what Python's own tables treat in other ways.
        self.plain = plain

    def one(self, *choices):
        return self.chance.choice(choices)

    def likely(self, part):
        return self.chance.random() < part

    def name(self):
        return self.chance.choice(self.pool)

    def expression(self, room):
        if room <= 0 or self.likely(0.25):
            return self.name()
        inner = lambda: self.expression(room - 1)
        return self.one(
            lambda: f"{inner()} + {inner()}", lambda: f"f({inner()}, k={inner()})", lambda: self.comprehension(room),
            lambda: self.comprehension(room), lambda: f"(lambda {self.parameters(room - 1, False)}: {inner()})",
            lambda: f"(lambda: {inner()})", lambda: f"({self.name()} := {inner()})" if not self.plain else inner(),
            lambda: f"{self.name()}.x[{inner()}]", lambda: f"({inner()}, {inner()})",
            lambda: "f'{ " + inner() + "!r:{" + self.name() + "}}'",
        )()

    def target(self, room):
        if self.likely(0.6):
            return self.name()
        return self.one(
            f"({self.name()}, *{self.name()})", f"{self.name()}.x", f"[{self.name()}, ({self.name()}, {self.name()})]",
            f"f[{self.expression(room - 1)}]", f"*{self.name()}, {self.name()}",
        )

    def comprehension(self, room):
        rows = ""
        for _ in range(self.one(1, 1, 2)):
            rows += f"{self.one('', '', ' async')} for {self.target(room - 1)} in {self.expression(room - 2)}"
            rows += f" if {self.expression(room - 1)}" if self.likely(0.3) else ""
        element = self.expression(room - 1)
        pair = f"{element}: {self.expression(room - 1)}"
        return self.one(f"[{element}{rows}]", f"{{{element}{rows}}}", f"({element}{rows})", f"{{{pair}{rows}}}")

    def parameters(self, room, annotated):
        names = self.chance.sample(self.pool, self.chance.randint(0, min(4, len(self.pool))))
        if names and self.likely(0.04):
            names.append(names[0])
        parts, starred, defaults = [], False, False
        for at, name in enumerate(names):
            note = f": {self.expression(room)}" if annotated and self.likely(0.3) else ""
            if not starred and self.likely(0.15):
                starred = True
                parts.append(f"*{name}{note}")
            elif at == len(names) - 1 and self.likely(0.15):
                parts.append(f"**{name}{note}")
            elif defaults and not starred or self.likely(0.3):
                defaults = True
                parts.append(f"{name}{note}={self.expression(room)}")
            else:
                parts.append(name + note)
                if not starred and self.likely(0.1):
                    parts.append("/") if "/" not in parts else None
        return ", ".join(parts)

    def body(self, room, depth):
        lines = []
        if depth and self.likely(0.35):
            word = self.one("global", "nonlocal", "nonlocal")
            lines.append(f"{word} {self.name()}" + (f", {self.name()}" if self.likely(0.3) else ""))
        for _ in range(self.one(1, 2, 3)):
            lines += self.statement(room, depth)
        if self.likely(0.05):
            lines.append(f"{self.one('global', 'nonlocal')} {self.name()}")
        return ["  " + line for line in lines] if depth else lines

    def statement(self, room, depth):
        if room > 0 and self.likely(0.5):
            return self.compound(room, depth)
        expression = self.expression
        ways = [
            lambda: f"{self.target(1)} = {expression(2)}", lambda: f"{self.name()} = {expression(2)}",
            lambda: expression(3), lambda: f"del {self.name()}, {self.name()}.x", lambda: f"return {expression(2)}",
            lambda: f"{self.name()} += {expression(1)}", lambda: "pass",
        ]
        if not self.plain:
            ways += [
                lambda: f"import {self.name()}.x", lambda: f"import {self.name()} as {self.name()}",
                lambda: f"from x import {self.name()} as {self.name()}", lambda: f"from x import {self.name()}",
                lambda: "from x import *", lambda: f"{self.name()}: {expression(1)} = {expression(1)}",
                lambda: f"({self.name()}): {expression(1)}",
            ]
        return [self.one(*ways)()]

    def compound(self, room, depth):
        body = lambda: self.body(room - 1, depth + 1)
        decorators = [f"@{self.expression(1)}"] if self.likely(0.2) else []
        way = self.chance.randrange(9)
        if way < 3:
            returns = f" -> {self.expression(1)}" if self.likely(0.2) else ""
            head = f"{self.one('', '', 'async ')}def {self.name()}({self.parameters(2, True)}){returns}:"
            return decorators + [head] + body()
        if way < 5:
            return decorators + [f"class {self.name()}{self.one('', f'({self.expression(1)}, k={self.name()})')}:"] + body()
        if way == 5:
            return [f"for {self.target(1)} in {self.expression(2)}:"] + body()
        if way == 6:
            return ["try: " + self.name(), f"except {self.name()} as {self.name()}:"] + body()
        if way == 7:
            return [f"with {self.expression(1)} as {self.name()}:"] + body()
        return [
            f"match {self.name()}:", f" case [{self.name()}, *{self.name()}] if {self.expression(1)}:",
            *["  " + line for line in body()], f" case {{1: _, **{self.name()}}} | x.y(_) as {self.name()}: pass",
        ]

    def program(self, room=4):
        return "\n".join(self.body(room, 0))
