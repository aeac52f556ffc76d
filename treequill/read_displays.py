"""Reads what stands in brackets: groups, displays, comprehensions, arguments, subscripts; and targets."""

from treequill.nodes import Node
from treequill.read_strings import StringReader
from treequill.targets import can_be_target, set_context

ATOM_STARTS = ("NAME", "NUMBER", "STRING", "FSTRING", "...", "None", "True", "False", "(", "[", "{")
TARGET_STARTS = ("NAME", "NUMBER", "STRING", "FSTRING", "...", "None", "True", "False", "(", "[", "{", "*")
EXPRESSION_STARTS = (
    "NAME", "NUMBER", "STRING", "FSTRING", "...", "None", "True", "False", "(", "[", "{",
    "-", "+", "~", "not", "lambda", "await",
)
COMPREHENSION_STARTS = ("for", "async")


class DisplayReader(StringReader):
    def round_display(self):
        """Read a tuple, a group or a generator."""
        start = self.place()
        self.take()
        if self.accept(")"):
            return self.make(start, "Tuple", [])
        if self.peek() == "yield":
            node = self.yielded()
            self.expect(")")
            return node
        first = self.element()
        if first.kind != "Starred":
            if self.peek() in COMPREHENSION_STARTS:
                return self.comprehension_of(start, "GeneratorExp", [first], ")")
            if self.accept(")"):
                return first
        if self.peek() != ",":
            self.fail()
        elts = self.elements_from(first, ")")
        return self.make(start, "Tuple", elts)

    def square_display(self):
        """Read a list."""
        start = self.place()
        self.take()
        if self.accept("]"):
            return self.make(start, "List", [])
        first = self.element()
        if first.kind != "Starred" and self.peek() in COMPREHENSION_STARTS:
            return self.comprehension_of(start, "ListComp", [first], "]")
        elts = self.elements_from(first, "]")
        return self.make(start, "List", elts)

    def curly_display(self):
        """Read a dict or a set."""
        start = self.place()
        self.take()
        if self.accept("}"):
            return self.make(start, "Dict", [], [])
        if self.peek() == "**":
            return self.dict_from(start, [], [])
        may_be_key = not self.begins("NAME", ":=")
        first = self.element()
        if first.kind != "Starred":
            if may_be_key and self.accept(":"):
                value = self.expression()
                if self.peek() in COMPREHENSION_STARTS:
                    return self.comprehension_of(start, "DictComp", [first, value], "}")
                return self.dict_from(start, [first], [value])
            if self.peek() in COMPREHENSION_STARTS:
                return self.comprehension_of(start, "SetComp", [first], "}")
        elts = self.elements_from(first, "}")
        return self.make(start, "Set", elts)

    def element(self):
        if self.peek() == "*":
            return self.star()
        return self.named()

    def elements_from(self, first, closing):
        """Read the elements behind the first one, up to the closing bracket."""
        elts = [first]
        while self.accept(","):
            if self.peek() == closing:
                break
            elts.append(self.element())
        self.expect(closing)
        return elts

    def dict_from(self, start, keys, values):
        """Read the pairs of a dict behind those that are given already."""
        more = not keys or self.accept(",")
        while more and self.peek() != "}":
            if self.accept("**"):
                keys.append(None)
                values.append(self.bit_or())
            else:
                keys.append(self.expression())
                self.expect(":")
                values.append(self.expression())
            more = self.accept(",")
        self.expect("}")
        return self.make(start, "Dict", keys, values)

    def comprehension_of(self, start, kind, parts, closing):
        generators = self.comprehensions()
        self.expect(closing)
        return self.make(start, kind, *parts, generators)

    def comprehensions(self):
        rows = []
        while self.peek() in COMPREHENSION_STARTS:
            is_async = 1 if self.accept("async") else 0
            self.expect("for")
            target = self.targets()
            self.expect("in")
            source = self.disjunction()
            ifs = []
            while self.accept("if"):
                ifs.append(self.disjunction())
            rows.append(Node("comprehension", target, source, ifs, is_async))
        return rows

    def targets(self):
        """Read the targets of a comprehension or a for."""
        start = self.place()
        first = self.star_or_target()
        if self.peek() != ",":
            return self.alone(first)
        elts = [first]
        while self.goes_on(TARGET_STARTS):
            elts.append(self.star_or_target())
        node = self.make(start, "Tuple", elts)
        set_context(node, "Store")
        return node

    def star_or_target(self):
        start = self.place()
        if not self.accept("*"):
            return self.target("Store")
        target = self.target("Store")
        return self.make(start, "Starred", target)

    def target(self, word):
        """Read one target, to which a context is given."""
        node = self.primary()
        if not can_be_target(node, word == "Store"):
            self.fail()
        set_context(node, word)
        return node

    def arguments(self, may_generate):
        """Read arguments in their brackets: return the lists of args and keywords."""
        start = self.place()
        self.expect("(")
        positional, keywords = [], []
        while self.peek() != ")":
            self.argument(positional, keywords)
            alone = may_generate and len(positional) == 1 and not keywords and positional[0].kind != "Starred"
            if alone and self.peek() in COMPREHENSION_STARTS:
                return [self.comprehension_of(start, "GeneratorExp", positional, ")")], []
            if not self.accept(","):
                break
        self.expect(")")
        return positional, keywords

    def argument(self, positional, keywords):
        """Read an argument, and add it to one of the lists."""
        start = self.place()
        if self.accept("**"):
            keywords.append(self.make(start, "keyword", None, self.expression()))
        elif self.peek() == "*" and all([keyword["arg"] is not None for keyword in keywords]):
            self.take()
            positional.append(self.make(start, "Starred", self.expression()))
        elif keywords or self.begins("NAME", "="):
            name = self.take_name()
            self.expect("=")
            keywords.append(self.make(start, "keyword", name, self.expression()))
        else:
            positional.append(self.named())

    def subscript(self):
        """Read what stands in the brackets of a subscript, and the bracket behind it."""
        start = self.place()
        items = [self.subscript_item()]
        several = items[0].kind == "Starred" or self.peek() == ","
        while self.accept(","):
            if self.peek() == "]":
                break
            items.append(self.subscript_item())
        node = self.make(start, "Tuple", items) if several else items[0]
        self.expect("]")
        return node

    def subscript_item(self):
        start = self.place()
        if self.accept("*"):
            return self.make(start, "Starred", self.expression())
        if self.begins("NAME", ":="):
            return self.named()
        lower = None if self.peek() == ":" else self.expression()
        if not self.accept(":"):
            return lower
        upper = self.expression_if_any()
        step = self.expression_if_any() if self.accept(":") else None
        return self.make(start, "Slice", lower, upper, step)

    def expression_if_any(self):
        return self.expression() if self.peek() in EXPRESSION_STARTS else None
