"""Reads the patterns of match statements."""

from treequill.nodes import Node
from treequill.read_expressions import SINGLETONS, ExpressionReader
from treequill.values import Imaginary

PATTERN_STARTS = ("NUMBER", "-", "STRING", "None", "True", "False", "NAME", "(", "[", "{", "*")


class PatternReader(ExpressionReader):
    def patterns(self):
        """Read the whole pattern of a case, in which commas need no brackets."""
        start = self.place()
        first = self.star_or_pattern()
        if self.peek() != ",":
            return self.alone(first)
        patterns = [first]
        while self.goes_on(PATTERN_STARTS):
            patterns.append(self.star_or_pattern())
        return self.make(start, "MatchSequence", patterns)

    def star_or_pattern(self):
        start = self.place()
        if not self.accept("*"):
            return self.pattern()
        name = self.take_name()
        return self.make(start, "MatchStar", None if name == "_" else name)

    def pattern(self):
        start = self.place()
        patterns = [self.closed_pattern()]
        while self.accept("|"):
            patterns.append(self.closed_pattern())
        made = patterns[0] if len(patterns) == 1 else self.make(start, "MatchOr", patterns)
        if not self.accept("as"):
            return made
        return self.make(start, "MatchAs", made, self.captured_name())

    def captured_name(self):
        """Read a name that is not _."""
        if self.tokens[self.at].text == "_":
            self.fail()
        return self.take_name()

    def closed_pattern(self):
        start = self.place()
        kind = self.peek()
        if kind == "NAME":
            return self.name_pattern()
        if kind == "(":
            return self.round_pattern()
        if kind == "[":
            self.take()
            return self.make(start, "MatchSequence", self.patterns_up_to("]"))
        if kind == "{":
            return self.mapping_pattern()
        if kind in SINGLETONS:
            self.take()
            return self.make(start, "MatchSingleton", SINGLETONS[kind])
        return self.make(start, "MatchValue", self.literal())

    def name_pattern(self):
        """Read a capture, a name with points, or a class."""
        start = self.place()
        if self.tokens[self.at].text == "_":
            self.take()
            return self.make(start, "MatchAs")
        name = self.name_node()
        if self.peek() == ".":
            name = self.attributes_of(start, name)
            if self.peek() != "(":
                return self.make(start, "MatchValue", name)
        if self.peek() == "(":
            return self.class_pattern(start, name)
        return self.make(start, "MatchAs", None, name["id"])

    def attributes_of(self, start, node):
        """Read a point and a name behind a name, and more of these."""
        if self.peek() != ".":
            self.fail()
        while self.accept("."):
            node = self.make(start, "Attribute", node, self.take_name())
        return node

    def literal(self):
        """Read a number with its sign, a sum of a real and an imaginary one, or strings without fields."""
        start = self.place()
        if self.peek() == "STRING":
            return self.strings(("STRING",))
        node = self.signed_number()
        if self.peek() not in ("+", "-") or isinstance(self.tokens[self.at - 1].value, Imaginary):
            return node
        kind = "Add" if self.take().kind == "+" else "Sub"
        if not isinstance(self.tokens[self.at].value, Imaginary):
            self.fail()
        return self.make(start, "BinOp", node, Node(kind), self.number_node())

    def signed_number(self):
        start = self.place()
        if self.accept("-"):
            return self.make(start, "UnaryOp", Node("USub"), self.number_node())
        return self.number_node()

    def number_node(self):
        start = self.place()
        return self.make(start, "Constant", self.expect("NUMBER").value)

    def round_pattern(self):
        """Read a sequence, or a pattern in brackets."""
        start = self.place()
        self.take()
        if self.accept(")"):
            return self.make(start, "MatchSequence", [])
        first = self.star_or_pattern()
        if first.kind != "MatchStar" and self.accept(")"):
            return first
        self.expect(",")
        patterns = [first] + self.patterns_up_to(")")
        return self.make(start, "MatchSequence", patterns)

    def patterns_up_to(self, closing):
        patterns = []
        while self.peek() != closing:
            patterns.append(self.star_or_pattern())
            if not self.accept(","):
                break
        self.expect(closing)
        return patterns

    def mapping_pattern(self):
        start = self.place()
        self.take()
        keys, patterns, rest = [], [], None
        while self.peek() != "}":
            if self.accept("**"):
                rest = self.captured_name()
                self.accept(",")
                break
            keys.append(self.key())
            self.expect(":")
            patterns.append(self.pattern())
            if not self.accept(","):
                break
        self.expect("}")
        return self.make(start, "MatchMapping", keys, patterns, rest)

    def key(self):
        start = self.place()
        kind = self.peek()
        if kind == "NAME":
            return self.attributes_of(start, self.name_node())
        if kind not in SINGLETONS:
            return self.literal()
        self.take()
        return self.make(start, "Constant", SINGLETONS[kind])

    def class_pattern(self, start, name):
        """Read the rows of a class: patterns, then patterns by name."""
        self.expect("(")
        patterns, names, named_patterns = [], [], []
        while self.peek() != ")":
            if names or self.begins("NAME", "="):
                names.append(self.take_name())
                self.expect("=")
                named_patterns.append(self.pattern())
            else:
                patterns.append(self.pattern())
            if not self.accept(","):
                break
        self.expect(")")
        return self.make(start, "MatchClass", name, patterns, names, named_patterns)
