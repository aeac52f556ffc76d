"""A place in the tokens of a text, and the nodes that are made of them.

The readers of strings, displays, expressions, patterns and statements stand above one another, in this
order. Each reads what its rules describe; a token that no rule asks for is the one that is refused, as
all rules go on until then with what some program goes on with.
"""

from treequill.errors import BadText
from treequill.nodes import Node
from treequill.tokens import LAYOUT

STARS = ("Starred", "MatchStar")


class Cursor:
    """Goes through the tokens of a text, the last of which is END or BAD."""

    def __init__(self, tokens):
        self.tokens = tokens
        self.at = 0

    def peek(self):
        """Return the kind of the next token."""
        return self.tokens[self.at].kind

    def begins(self, kind, behind):
        """Tell whether the next two tokens are of these kinds."""
        return self.peek() == kind and self.tokens[self.at + 1].kind == behind

    def place(self):
        """Return the place of the next token."""
        return self.tokens[self.at].start

    def take(self):
        """Return the next token, and go on behind it."""
        self.at += 1
        return self.tokens[self.at - 1]

    def accept(self, kind):
        """Go on behind the next token if it is of this kind, and tell whether it is."""
        if self.peek() != kind:
            return False
        self.at += 1
        return True

    def expect(self, kind):
        """Return the next token, which must be of this kind."""
        if self.peek() != kind:
            self.fail()
        return self.take()

    def goes_on(self, starts):
        """Go on behind a comma, and tell whether a token of one of these kinds stands there."""
        return self.accept(",") and self.peek() in starts

    def alone(self, node):
        """Return what no comma stands behind: a star needs one."""
        if node.kind in STARS:
            self.fail()
        return node

    def take_name(self):
        return self.expect("NAME").text

    def fail(self):
        """Refuse the next token."""
        line, column = self.place()
        raise BadText(line, column)

    def make(self, start, kind, *parts):
        """Return a new node from a place to the end of the last token that is taken."""
        node = Node(kind, *parts)
        last = self.at - 1
        while self.tokens[last].kind in LAYOUT:
            last -= 1
        node.lineno, node.col_offset = start
        node.end_lineno, node.end_col_offset = self.tokens[last].end
        return node
