"""Reads expressions and parameters."""

from treequill.nodes import Node
from treequill.operators import BINARY, COMPARISONS, UNARY
from treequill.read_displays import DisplayReader
from treequill.targets import set_context
from treequill.values import Dots

STRINGS = ("STRING", "FSTRING")
LISTING_STARTS = (
    "NAME", "NUMBER", "STRING", "FSTRING", "...", "None", "True", "False", "(", "[", "{",
    "-", "+", "~", "not", "lambda", "await", "*",
)
SINGLETONS = {"None": None, "True": True, "False": False}


class ExpressionReader(DisplayReader):
    def right(self):
        if self.peek() == "yield":
            return self.yielded()
        return self.listing()

    def yielded(self):
        start = self.place()
        self.expect("yield")
        if self.accept("from"):
            return self.make(start, "YieldFrom", self.expression())
        return self.make(start, "Yield", self.listing_if_any())

    def listing_if_any(self):
        return self.listing() if self.peek() in LISTING_STARTS else None

    def listing(self):
        start = self.place()
        first = self.star_or_expression()
        if self.peek() != ",":
            return self.alone(first)
        elts = [first]
        while self.goes_on(LISTING_STARTS):
            elts.append(self.star_or_expression())
        return self.make(start, "Tuple", elts)

    def star_or_expression(self):
        if self.peek() == "*":
            return self.star()
        return self.expression()

    def star(self):
        start = self.place()
        self.expect("*")
        return self.make(start, "Starred", self.bit_or())

    def named(self):
        if not self.begins("NAME", ":="):
            return self.expression()
        start = self.place()
        target = self.name_node()
        set_context(target, "Store")
        self.expect(":=")
        return self.make(start, "NamedExpr", target, self.expression())

    def expression(self):
        if self.peek() == "lambda":
            return self.lambda_expression()
        start = self.place()
        body = self.disjunction()
        if not self.accept("if"):
            return body
        test = self.disjunction()
        self.expect("else")
        return self.make(start, "IfExp", test, body, self.expression())

    def lambda_expression(self):
        start = self.place()
        self.expect("lambda")
        parameters = self.parameters(":")
        self.expect(":")
        return self.make(start, "Lambda", parameters, self.expression())

    def disjunction(self):
        start = self.place()
        values = [self.conjunction()]
        while self.accept("or"):
            values.append(self.conjunction())
        return values[0] if len(values) == 1 else self.make(start, "BoolOp", Node("Or"), values)

    def conjunction(self):
        start = self.place()
        values = [self.inversion()]
        while self.accept("and"):
            values.append(self.inversion())
        return values[0] if len(values) == 1 else self.make(start, "BoolOp", Node("And"), values)

    def inversion(self):
        start = self.place()
        if not self.accept("not"):
            return self.comparison()
        return self.make(start, "UnaryOp", Node("Not"), self.inversion())

    def comparison(self):
        start = self.place()
        left = self.bit_or()
        ops, comparators = [], []
        while self.peek() == "not" or self.peek() in COMPARISONS:
            ops.append(Node(COMPARISONS[self.comparison_sign()]))
            comparators.append(self.bit_or())
        if not ops:
            return left
        return self.make(start, "Compare", left, ops, comparators)

    def comparison_sign(self):
        sign = self.take().kind
        if sign == "not":
            self.expect("in")
            return "not in"
        if sign == "is" and self.accept("not"):
            return "is not"
        return sign

    def bit_or(self, rank=0):
        """Read operators with two sides that are of this rank at least."""
        start = self.place()
        left = self.factor()
        while self.peek() in BINARY and BINARY[self.peek()][1] >= rank:
            kind, own = BINARY[self.take().kind]
            right = self.bit_or(own + 1)
            left = self.make(start, "BinOp", left, Node(kind), right)
        return left

    def factor(self):
        if self.peek() not in UNARY:
            return self.power()
        start = self.place()
        sign = self.take().kind
        return self.make(start, "UnaryOp", Node(UNARY[sign]), self.factor())

    def power(self):
        start = self.place()
        if self.accept("await"):
            left = self.make(start, "Await", self.primary())
        else:
            left = self.primary()
        if not self.accept("**"):
            return left
        return self.make(start, "BinOp", left, Node("Pow"), self.factor())

    def primary(self):
        start = self.place()
        node = self.atom()
        while True:
            if self.accept("."):
                node = self.make(start, "Attribute", node, self.take_name())
            elif self.peek() == "(":
                positional, keywords = self.arguments(True)
                node = self.make(start, "Call", node, positional, keywords)
            elif self.accept("["):
                item = self.subscript()
                node = self.make(start, "Subscript", node, item)
            else:
                return node

    def atom(self):
        start = self.place()
        kind = self.peek()
        if kind == "NAME":
            return self.name_node()
        if kind == "NUMBER":
            return self.make(start, "Constant", self.take().value)
        if kind in STRINGS:
            return self.strings(STRINGS)
        if kind == "(":
            return self.round_display()
        if kind == "[":
            return self.square_display()
        if kind == "{":
            return self.curly_display()
        if kind == "...":
            self.take()
            return self.make(start, "Constant", Dots())
        if kind not in SINGLETONS:
            self.fail()
        self.take()
        return self.make(start, "Constant", SINGLETONS[kind])

    def name_node(self):
        start = self.place()
        return self.make(start, "Name", self.take_name())

    def parameters(self, closing):
        """Read parameters up to what closes them: a colon behind those of a lambda."""
        made = Node("arguments")
        while self.peek() != closing:
            if self.accept("**"):
                made["kwarg"] = self.parameter(closing)
                self.accept(",")
                break
            if self.peek() == "*":
                self.starred_parameter(made, closing)
            elif self.peek() == "/":
                self.slash(made)
            elif has_star(made):
                self.keyword_parameter(made, closing)
            else:
                self.plain_parameter(made, closing)
            if not self.accept(","):
                break
        return made

    def parameter(self, closing):
        """Read a parameter without its default; only a def has annotations."""
        start = self.place()
        name = self.take_name()
        annotation = self.expression() if closing != ":" and self.accept(":") else None
        return self.make(start, "arg", name, annotation)

    def slash(self, made):
        """Read the / that makes those ahead of it parameters by position alone."""
        if made["posonlyargs"] or not made["args"] or has_star(made):
            self.fail()
        self.take()
        made["posonlyargs"] = made["args"]
        made["args"] = []

    def starred_parameter(self, made, closing):
        if has_star(made):
            self.fail()
        self.take()
        if self.peek() == "NAME":
            made["vararg"] = self.parameter(closing)
        else:
            self.expect(",")
            self.keyword_parameter(made, closing)

    def keyword_parameter(self, made, closing):
        made["kwonlyargs"].append(self.parameter(closing))
        made["kw_defaults"].append(self.expression() if self.accept("=") else None)

    def plain_parameter(self, made, closing):
        made["args"].append(self.parameter(closing))
        if self.accept("="):
            made["defaults"].append(self.expression())
        elif made["defaults"]:
            self.fail()


def has_star(made):
    """Tell whether a star stands among the parameters that are read already."""
    return made["vararg"] is not None or bool(made["kwonlyargs"])
