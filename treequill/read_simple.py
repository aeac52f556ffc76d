"""Reads simple statements."""

from treequill.operators import AUGMENTED
from treequill.nodes import Node
from treequill.read_displays import ATOM_STARTS
from treequill.read_patterns import PatternReader
from treequill.targets import SINGLE, can_be_target, set_context

SINGLE_WORDS = {"pass": "Pass", "break": "Break", "continue": "Continue"}
NAMES_WORDS = {"global": "Global", "nonlocal": "Nonlocal"}
DOTS = (".", "...")


class SimpleReader(PatternReader):
    def simple_line(self):
        """Read simple statements up to the end of the logical line: return a list of them."""
        statements = [self.simple()]
        while self.accept(";"):
            if self.peek() == "NEWLINE":
                break
            statements.append(self.simple())
        self.expect("NEWLINE")
        return statements

    def simple(self):
        word = self.peek()
        if word in SINGLE_WORDS or word in NAMES_WORDS:
            return self.word_statement()
        if word == "return":
            return self.return_statement()
        if word == "del":
            return self.delete_statement()
        if word == "raise":
            return self.raise_statement()
        if word == "assert":
            return self.assert_statement()
        if word == "import":
            return self.import_statement()
        if word == "from":
            return self.import_from_statement()
        return self.expression_statement()

    def word_statement(self):
        start = self.place()
        word = self.take().kind
        if word in SINGLE_WORDS:
            return self.make(start, SINGLE_WORDS[word])
        names = [self.take_name()]
        while self.accept(","):
            names.append(self.take_name())
        return self.make(start, NAMES_WORDS[word], names)

    def return_statement(self):
        start = self.place()
        self.take()
        return self.make(start, "Return", self.listing_if_any())

    def delete_statement(self):
        start = self.place()
        self.take()
        targets = [self.target("Del")]
        while self.goes_on(ATOM_STARTS):
            targets.append(self.target("Del"))
        return self.make(start, "Delete", targets)

    def raise_statement(self):
        start = self.place()
        self.take()
        error = self.expression_if_any()
        cause = self.expression() if error is not None and self.accept("from") else None
        return self.make(start, "Raise", error, cause)

    def assert_statement(self):
        start = self.place()
        self.take()
        test = self.expression()
        message = self.expression() if self.accept(",") else None
        return self.make(start, "Assert", test, message)

    def import_statement(self):
        start = self.place()
        self.take()
        names = [self.imported(True)]
        while self.accept(","):
            names.append(self.imported(True))
        return self.make(start, "Import", names)

    def imported(self, may_have_points):
        """Read a name that is imported, and the one that it is given."""
        start = self.place()
        name = self.dotted() if may_have_points else self.take_name()
        asname = self.take_name() if self.accept("as") else None
        return self.make(start, "alias", name, asname)

    def dotted(self):
        name = self.take_name()
        while self.accept("."):
            name = f"{name}.{self.take_name()}"
        return name

    def import_from_statement(self):
        start = self.place()
        self.take()
        level = 0
        while self.peek() in DOTS:
            level += len(self.take().text)
        module = self.dotted() if level == 0 or self.peek() == "NAME" else None
        self.expect("import")
        return self.make(start, "ImportFrom", module, self.imported_names(), level)

    def imported_names(self):
        start = self.place()
        if self.accept("*"):
            return [self.make(start, "alias", "*")]
        in_brackets = self.accept("(")
        names = [self.imported(False)]
        while self.accept(","):
            if in_brackets and self.peek() == ")":
                break
            names.append(self.imported(False))
        if in_brackets:
            self.expect(")")
        return names

    def expression_statement(self):
        """Read an expression, and what is assigned to it, if it can be a target."""
        start = self.place()
        first = self.right()
        sign = self.peek()
        if sign == "=":
            return self.assign(start, first)
        if first.kind in SINGLE and sign in AUGMENTED:
            self.take()
            set_context(first, "Store")
            return self.make(start, "AugAssign", first, Node(AUGMENTED[sign]), self.right())
        if first.kind in SINGLE and sign == ":":
            return self.annotate(start, first)
        return self.make(start, "Expr", first)

    def assign(self, start, first):
        targets = []
        value = first
        while self.peek() == "=":
            if not can_be_target(value, True):
                self.fail()
            self.take()
            set_context(value, "Store")
            targets.append(value)
            value = self.right()
        return self.make(start, "Assign", targets, value)

    def annotate(self, start, target):
        # A name in a group begins behind the bracket.
        simple = 1 if target.kind == "Name" and (target.lineno, target.col_offset) == start else 0
        self.take()
        set_context(target, "Store")
        annotation = self.expression()
        value = self.right() if self.accept("=") else None
        return self.make(start, "AnnAssign", target, annotation, value, simple)
