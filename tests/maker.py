"""Makes random readable trees, by the table of kinds and the rules of DOC.md [33]."""

import random

from treequill.nodes import Node
from treequill.values import Dots, Float, Imaginary, Octets

from table import GROUPS

NAMES = ["a", "b", "c", "match", "case", "_", "x1"]
STRINGS = ["", "a", "it's", "\"", "'\"", "\\", "a\nb", "\t", "{", "}}", "#"]
NUMBERS = [0, 7, 123, Float(1, -1), Float(1, 0), Float(1, 1024), Float(1, 60), Imaginary(Float(0, 0)),
           Imaginary(Float(3, 0)), Imaginary(Float(1, -2))]
OCTETS = [Octets(()), Octets((97, 39)), Octets((34, 39, 92)), Octets((0, 10, 13, 37, 255))]


class Maker:
    def __init__(self, seed):
        self.chance = random.Random(seed)

    def pick(self, *choices):
        return self.chance.choice(choices)

    def some(self, make, least, most):
        return [make() for _ in range(self.chance.randint(least, most))]

    def maybe(self, make):
        return make() if self.chance.random() < 0.5 else None

    def name(self):
        return self.chance.choice(NAMES)

    def free(self):
        return self.chance.choice([name for name in NAMES if name != "_"])

    def operator(self, group):
        return Node(self.chance.choice(GROUPS[group]))

    def constant(self):
        value = self.chance.choice([None, True, False, Dots(), *NUMBERS, *STRINGS, *OCTETS])
        return Node("Constant", value)

    def listed(self, room, named=True):
        """Return an expression, or a Starred one."""
        if self.chance.random() < 0.2:
            return Node("Starred", self.expression(room))
        return self.expression(room)

    def expression(self, room):
        if room <= 0:
            return self.pick(lambda: Node("Name", self.name()), self.constant)()
        kind = self.chance.choice([kind for kind in GROUPS["EXPR"] if kind not in ("FormattedValue", "Starred",
            "Slice")])
        return getattr(self, "make_" + kind.lower(), self.make_other)(kind, room - 1)

    def make_other(self, kind, room):
        raise AssertionError(kind)

    def make_boolop(self, kind, room):
        return Node(kind, self.operator("And or Or"), self.some(lambda: self.expression(room), 2, 3))

    def make_namedexpr(self, kind, room):
        return Node(kind, Node("Name", self.name(), Node("Store")), self.expression(room))

    def make_binop(self, kind, room):
        return Node(kind, self.expression(room), self.operator("OPERATOR"), self.expression(room))

    def make_unaryop(self, kind, room):
        return Node(kind, self.operator("UNARY"), self.expression(room))

    def make_lambda(self, kind, room):
        return Node(kind, self.arguments(room, False), self.expression(room))

    def make_ifexp(self, kind, room):
        return Node(kind, self.expression(room), self.expression(room), self.expression(room))

    def make_dict(self, kind, room):
        keys = self.some(lambda: self.maybe(lambda: self.expression(room)), 0, 3)
        return Node(kind, keys, [self.expression(room) for _ in keys])

    def make_set(self, kind, room):
        return Node(kind, self.some(lambda: self.listed(room), 1, 3))

    def make_listcomp(self, kind, room):
        return Node(kind, self.expression(room), self.some(lambda: self.comprehension(room), 1, 2))

    make_setcomp = make_generatorexp = make_listcomp

    def make_dictcomp(self, kind, room):
        generators = self.some(lambda: self.comprehension(room), 1, 2)
        return Node(kind, self.expression(room), self.expression(room), generators)

    def comprehension(self, room):
        ifs = self.some(lambda: self.expression(room), 0, 2)
        return Node("comprehension", self.target(room), self.expression(room), ifs, self.pick(0, 1))

    def make_await(self, kind, room):
        return Node(kind, self.expression(room))

    make_yieldfrom = make_await

    def make_yield(self, kind, room):
        return Node(kind, self.maybe(lambda: self.expression(room)))

    def make_compare(self, kind, room):
        ops = self.some(lambda: self.operator("COMPARISON"), 1, 2)
        return Node(kind, self.expression(room), ops, [self.expression(room) for _ in ops])

    def keyword(self, room):
        return Node("keyword", self.maybe(self.name), self.expression(room))

    def make_call(self, kind, room):
        args = self.some(lambda: self.listed(room), 0, 2)
        return Node(kind, self.expression(room), args, self.some(lambda: self.keyword(room), 0, 2))

    def make_joinedstr(self, kind, room, in_spec=False):
        values = []
        for _ in range(self.chance.randint(0, 3)):
            if self.chance.random() < 0.5 and (not values or values[-1].kind != "Constant"):
                texts = ["a", ">5", ":", " #"] if in_spec else STRINGS[1:]
                values.append(Node("Constant", self.chance.choice(texts)))
            else:
                spec = None
                if not in_spec and self.chance.random() < 0.5:
                    spec = self.make_joinedstr(kind, room - 1, True)
                values.append(Node("FormattedValue", self.expression(room), self.pick(-1, 97, 114, 115), spec))
        return Node(kind, values)

    def make_constant(self, kind, room):
        return self.constant()

    def make_attribute(self, kind, room):
        return Node(kind, self.expression(room), self.name())

    def make_subscript(self, kind, room):
        return Node(kind, self.expression(room), self.subscript(room))

    def subscript(self, room):
        item = self.pick(self.slice, self.expression, self.slice_tuple)
        return item(room)

    def slice(self, room):
        return Node("Slice", *[self.maybe(lambda: self.expression(room)) for _ in range(3)])

    def slice_tuple(self, room):
        make = lambda: self.pick(self.slice, self.listed)(room)
        return Node("Tuple", self.some(make, 1, 3))

    def make_name(self, kind, room):
        return Node(kind, self.name())

    def make_list(self, kind, room):
        return Node(kind, self.some(lambda: self.listed(room), 0, 3))

    make_tuple = make_list

    def target(self, room, word="Store"):
        """Return a target, or an element of one."""
        kind = self.pick("Name", "Attribute", "Subscript", "Tuple", "List") if room > 0 else "Name"
        room -= 1
        if kind == "Name":
            return Node(kind, self.name(), Node(word))
        if kind == "Attribute":
            return Node(kind, self.expression(room), self.name(), Node(word))
        if kind == "Subscript":
            return Node(kind, self.expression(room), self.subscript(room), Node(word))
        return Node(kind, self.some(lambda: self.target_element(room, word), 0, 3), Node(word))

    def target_element(self, room, word):
        if word == "Store" and self.chance.random() < 0.2:
            return Node("Starred", self.target(room, word), Node(word))
        return self.target(room, word)

    def single_target(self, room):
        while True:
            target = self.target(room)
            if target.kind in ("Name", "Attribute", "Subscript"):
                return target

    def arg(self, room, annotated):
        annotation = self.maybe(lambda: self.expression(room)) if annotated else None
        return Node("arg", self.name(), annotation)

    def arguments(self, room, annotated):
        def make():
            return self.arg(room, annotated)
        first, second = self.some(make, 0, 2), self.some(make, 0, 2)
        defaults = self.some(lambda: self.expression(room), 0, len(first + second))
        named = self.some(make, 0, 2)
        kw_defaults = [self.maybe(lambda: self.expression(room)) for _ in named]
        return Node("arguments", first, second, self.maybe(make), named, kw_defaults, self.maybe(make), defaults)

    def body(self, room, blocks):
        return self.some(lambda: self.statement(room, blocks - 1), 1, 2)

    def statement(self, room, blocks):
        kinds = list(GROUPS["STMT"])
        compound = ("FunctionDef", "AsyncFunctionDef", "ClassDef", "For", "AsyncFor", "While", "If", "With",
                    "AsyncWith", "Match", "Try")
        if blocks <= 0:
            kinds = [kind for kind in kinds if kind not in compound]
        kind = self.chance.choice(kinds)
        return Node(kind, *self.parts_of(kind, room, blocks))

    def parts_of(self, kind, room, blocks):
        def make():
            return self.expression(room)
        def body():
            return self.body(room, blocks)
        orelse = body() if blocks > 0 and self.chance.random() < 0.4 else []
        match kind:
            case "FunctionDef" | "AsyncFunctionDef":
                return self.name(), self.arguments(room, True), body(), self.some(make, 0, 2), self.maybe(make)
            case "ClassDef":
                bases = self.some(lambda: self.listed(room), 0, 2)
                keywords = self.some(lambda: self.keyword(room), 0, 2)
                return self.name(), bases, keywords, body(), self.some(make, 0, 1)
            case "Return":
                return (self.maybe(lambda: self.pick(make, lambda: self.make_tuple("Tuple", room))()),)
            case "Delete":
                return (self.some(lambda: self.target(room, "Del"), 1, 2),)
            case "Assign":
                return self.some(lambda: self.target(room), 1, 2), make()
            case "AugAssign":
                return self.single_target(room), self.operator("OPERATOR"), make()
            case "AnnAssign":
                target = self.single_target(room)
                return target, make(), self.maybe(make), self.pick(0, 1) if target.kind == "Name" else 0
            case "For" | "AsyncFor":
                return self.target(room), make(), body(), orelse
            case "While" | "If":
                return make(), body(), orelse
            case "With" | "AsyncWith":
                return self.some(lambda: self.item(room), 1, 2), body()
            case "Match":
                subject = self.pick(make, lambda: self.make_tuple("Tuple", room))()
                return subject, self.some(lambda: self.case(room, blocks), 1, 2)
            case "Raise":
                error = self.maybe(make)
                return error, self.maybe(make) if error else None
            case "Assert":
                return make(), self.maybe(make)
            case "Try":
                handlers = self.some(lambda: self.handler(room, blocks), 0, 2)
                if not handlers:
                    return body(), [], [], body()
                return body(), handlers, orelse, body() if self.chance.random() < 0.5 else []
            case "Import":
                return (self.some(lambda: Node("alias", self.pick("a", "a.b"), self.maybe(self.name)), 1, 2),)
            case "ImportFrom":
                level = self.chance.randint(0, 4)
                module = self.maybe(lambda: self.pick("a", "a.b")) if level else "a.b"
                if self.chance.random() < 0.2:
                    return module, [Node("alias", "*")], level
                return module, self.some(lambda: Node("alias", self.name(), self.maybe(self.name)), 1, 2), level
            case "Global" | "Nonlocal":
                return (self.some(self.name, 1, 2),)
            case "Expr":
                return (make(),)
        return ()

    def item(self, room):
        context = self.pick(lambda: self.expression(room), lambda: self.make_tuple("Tuple", room))()
        return Node("withitem", context, self.maybe(lambda: self.target(room)))

    def handler(self, room, blocks):
        error = self.maybe(lambda: self.expression(room))
        return Node("ExceptHandler", error, self.maybe(self.name) if error else None, self.body(room, blocks))

    def case(self, room, blocks):
        guard = self.maybe(lambda: self.expression(room))
        return Node("match_case", self.pattern(room), guard, self.body(room, blocks))

    def pattern(self, room):
        kinds = [kind for kind in GROUPS["PATTERN"] if kind != "MatchStar"]
        if room <= 0:
            kinds = ["MatchValue", "MatchSingleton", "MatchAs"]
        room -= 1
        def make():
            return self.pattern(room)
        kind = self.chance.choice(kinds)
        if kind == "MatchValue":
            return Node(kind, self.pick(self.literal, lambda: self.dotted(self.free()))())
        if kind == "MatchSingleton":
            return Node(kind, self.pick(None, True, False))
        if kind == "MatchSequence":
            return Node(kind, self.some(lambda: self.star_or_pattern(room), 0, 3))
        if kind == "MatchOr":
            return Node(kind, self.some(make, 2, 3))
        if kind == "MatchMapping":
            keys = self.some(self.key, 0, 2)
            return Node(kind, keys, [make() for _ in keys], self.maybe(self.free))
        if kind == "MatchClass":
            names = self.some(self.name, 0, 2)
            cls = self.pick(lambda: Node("Name", self.free()), lambda: self.dotted(self.free()))()
            return Node(kind, cls, self.some(make, 0, 2), names, [make() for _ in names])
        if room > 0 and self.chance.random() < 0.6:
            return Node(kind, make(), self.free())
        return Node(kind, None, self.maybe(self.free))

    def star_or_pattern(self, room):
        if self.chance.random() < 0.3:
            return Node("MatchStar", self.maybe(self.free))
        return self.pattern(room)

    def key(self):
        single = lambda: Node("Constant", self.pick(None, True, False))
        return self.pick(self.literal, lambda: self.dotted(self.name()), single)()

    def dotted(self, name):
        node = Node("Name", name)
        for _ in range(self.chance.randint(1, 2)):
            node = Node("Attribute", node, self.name())
        return node

    def literal(self):
        reals = [value for value in NUMBERS if not isinstance(value, Imaginary)]
        imaginaries = [value for value in NUMBERS if isinstance(value, Imaginary)]
        way = self.chance.randrange(3)
        if way == 0:
            return Node("Constant", self.chance.choice(STRINGS + OCTETS))
        if way == 1:
            return self.signed(NUMBERS)
        right = Node("Constant", self.chance.choice(imaginaries))
        return Node("BinOp", self.signed(reals), Node(self.pick("Add", "Sub")), right)

    def signed(self, values):
        node = Node("Constant", self.chance.choice(values))
        return node if self.chance.random() < 0.5 else Node("UnaryOp", Node("USub"), node)

    def tree(self):
        way = self.chance.randrange(4)
        if way == 0:
            return Node("Module", self.some(lambda: self.statement(2, 3), 0, 2))
        if way == 1:
            return Node("Expression", self.expression(3))
        if way == 2:
            return self.expression(3)
        return self.statement(3, 2)
