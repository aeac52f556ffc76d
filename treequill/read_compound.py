"""Reads compound statements, and whole programs."""

from treequill.errors import BadText
from treequill.nodes import Node
from treequill.read_displays import EXPRESSION_STARTS
from treequill.read_expressions import LISTING_STARTS
from treequill.read_simple import SimpleReader


class ProgramReader(SimpleReader):
    def program(self):
        body = []
        while self.peek() != "END":
            body += self.statement()
        return Node("Module", body)

    def whole_expression(self):
        """Read a text that is an expression, or several with commas between them."""
        start = self.place()
        node = self.expression()
        if self.peek() == ",":
            elts = [node]
            while self.goes_on(EXPRESSION_STARTS):
                elts.append(self.expression())
            node = self.make(start, "Tuple", elts)
        while self.accept("NEWLINE"):
            pass
        self.expect("END")
        return Node("Expression", node)

    def statement(self):
        """Read a compound statement, or a line of simple ones: return a list of them."""
        match self.peek():
            case "if":
                return [self.if_statement()]
            case "while":
                return [self.while_statement()]
            case "for":
                return [self.for_statement(self.place(), "For")]
            case "try":
                return [self.try_statement()]
            case "with":
                return [self.with_statement(self.place(), "With")]
            case "def":
                return [self.function(self.place(), "FunctionDef", [])]
            case "class":
                return [self.class_statement([])]
            case "@":
                return [self.decorated()]
            case "async":
                return [self.async_statement()]
            case _:
                if self.peek() == "NAME" and self.tokens[self.at].text == "match":
                    return self.match_or_simple_line()
                return self.simple_line()

    def block(self):
        """Read a colon, and the statements behind it or below it."""
        self.expect(":")
        if not self.accept("NEWLINE"):
            return self.simple_line()
        self.expect("INDENT")
        body = self.statement()
        while not self.accept("DEDENT"):
            body += self.statement()
        return body

    def block_behind(self, word):
        return self.block() if self.accept(word) else []

    def if_statement(self):
        start = self.place()
        self.take()
        test = self.named()
        body = self.block()
        orelse = [self.if_statement()] if self.peek() == "elif" else self.block_behind("else")
        return self.make(start, "If", test, body, orelse)

    def while_statement(self):
        start = self.place()
        self.take()
        test = self.named()
        body = self.block()
        return self.make(start, "While", test, body, self.block_behind("else"))

    def for_statement(self, start, kind):
        self.expect("for")
        target = self.targets()
        self.expect("in")
        source = self.listing()
        body = self.block()
        return self.make(start, kind, target, source, body, self.block_behind("else"))

    def try_statement(self):
        start = self.place()
        self.take()
        body = self.block()
        handlers, orelse = [], []
        while self.peek() == "except":
            handlers.append(self.handler())
        if handlers:
            orelse = self.block_behind("else")
        elif self.peek() != "finally":
            self.fail()
        return self.make(start, "Try", body, handlers, orelse, self.block_behind("finally"))

    def handler(self):
        start = self.place()
        self.take()
        error = self.expression_if_any()
        name = self.take_name() if error is not None and self.accept("as") else None
        return self.make(start, "ExceptHandler", error, name, self.block())

    def with_statement(self, start, kind):
        self.expect("with")
        items = self.items_in_brackets_or_not() if self.peek() == "(" else self.plain_items()
        return self.make(start, kind, items, self.block())

    def items_in_brackets_or_not(self):
        """Read items in both ways; if both fail, refuse the token that is further away."""
        begin = self.at
        try:
            return self.items_in_brackets()
        except BadText as error:
            self.at = begin
            return self.items_or_beyond((error.lineno, error.col_offset))

    def items_or_beyond(self, place):
        """Read items; if they fail, refuse what is further away: their own token, or the one at a place."""
        try:
            return self.plain_items()
        except BadText as error:
            line, column = max(place, (error.lineno, error.col_offset))
            raise BadText(line, column)

    def items_in_brackets(self):
        self.expect("(")
        items = [self.item()]
        while self.accept(","):
            if self.peek() == ")":
                break
            items.append(self.item())
        self.expect(")")
        if self.peek() != ":":
            self.fail()
        return items

    def plain_items(self):
        items = [self.item()]
        while self.accept(","):
            items.append(self.item())
        return items

    def item(self):
        context = self.expression()
        target = self.target("Store") if self.accept("as") else None
        return Node("withitem", context, target)

    def decorated(self):
        decorators = []
        while self.accept("@"):
            decorators.append(self.named())
            self.expect("NEWLINE")
        if self.peek() == "class":
            return self.class_statement(decorators)
        start = self.place()
        kind = "AsyncFunctionDef" if self.accept("async") else "FunctionDef"
        return self.function(start, kind, decorators)

    def async_statement(self):
        start = self.place()
        self.take()
        if self.peek() == "for":
            return self.for_statement(start, "AsyncFor")
        if self.peek() == "with":
            return self.with_statement(start, "AsyncWith")
        return self.function(start, "AsyncFunctionDef", [])

    def function(self, start, kind, decorators):
        self.expect("def")
        name = self.take_name()
        self.expect("(")
        parameters = self.parameters(")")
        self.expect(")")
        returns = self.expression() if self.accept("->") else None
        body = self.block()
        return self.make(start, kind, name, parameters, body, decorators, returns)

    def class_statement(self, decorators):
        start = self.place()
        self.take()
        name = self.take_name()
        bases, keywords = self.arguments(False) if self.peek() == "(" else ([], [])
        body = self.block()
        return self.make(start, "ClassDef", name, bases, keywords, body, decorators)

    def match_or_simple_line(self):
        """Read a match statement, or a line that begins with a name; if both fail, refuse what is further away."""
        start = self.place()
        begin = self.at
        try:
            subject = self.match_head()
        except BadText as error:
            self.at = begin
            return self.simple_line_or_beyond((error.lineno, error.col_offset))
        cases = [self.case()]
        while not self.accept("DEDENT"):
            cases.append(self.case())
        return [self.make(start, "Match", subject, cases)]

    def simple_line_or_beyond(self, place):
        """Read a line; if it fails, refuse what is further away: its own token, or the one at a place."""
        try:
            return self.simple_line()
        except BadText as error:
            line, column = max(place, (error.lineno, error.col_offset))
            raise BadText(line, column)

    def match_head(self):
        self.take()
        subject = self.subject()
        self.expect(":")
        self.expect("NEWLINE")
        self.expect("INDENT")
        return subject

    def subject(self):
        start = self.place()
        first = self.element()
        if self.peek() != ",":
            return self.alone(first)
        elts = [first]
        while self.goes_on(LISTING_STARTS):
            elts.append(self.element())
        return self.make(start, "Tuple", elts)

    def case(self):
        """Read one case; its first word is a name elsewhere."""
        if self.tokens[self.at].text != "case":
            self.fail()
        self.take()
        pattern = self.patterns()
        guard = self.named() if self.accept("if") else None
        return Node("match_case", pattern, guard, self.block())
