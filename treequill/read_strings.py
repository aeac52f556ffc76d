"""Reads strings and f-strings that stand side by side."""

from treequill.cursor import Cursor
from treequill.errors import BadText
from treequill.nodes import Node
from treequill.values import Octets

CONVERSIONS = {"s": 115, "r": 114, "a": 97}


class StringReader(Cursor):
    def strings(self, kinds):
        """Read tokens of these kinds that stand side by side: all of them have b, or none has."""
        start = self.place()
        octets = self.tokens[self.at].octets
        fields = False
        pieces = []
        while self.peek() in kinds:
            if self.tokens[self.at].octets != octets:
                self.fail()
            if self.peek() == "STRING":
                pieces.append(self.string_token())
            else:
                fields = True
                pieces += self.joined()
        if fields:
            return self.make(start, "JoinedStr", _values_of(pieces))
        if octets:
            return self.make(start, "Constant", Octets(_numbers_of(pieces)))
        return self.make(start, "Constant", "".join([piece.value for piece in pieces]))

    def string_token(self):
        token = self.take()
        if token.fault is not None:
            line, column = token.fault
            raise BadText(line, column)
        return token

    def joined(self):
        """Read an f-string: return the tokens of its text and the nodes of its fields."""
        self.take()
        pieces = self.pieces()
        self.expect("FEND")
        return pieces

    def pieces(self):
        pieces = []
        while self.peek() in ("TEXT", "FIELD"):
            pieces.append(self.take() if self.peek() == "TEXT" else self.field_node())
        return pieces

    def field_node(self):
        start = self.place()
        self.take()
        value = self.right()
        conversion = self.conversion()
        spec_start = self.place()
        spec = None
        if self.accept(":"):
            pieces = self.pieces()
            spec = self.make(spec_start, "JoinedStr", _values_of(pieces))
        self.expect("}")
        return self.make(start, "FormattedValue", value, conversion, spec)

    def conversion(self):
        """Read what stands behind an exclamation mark, directly behind it."""
        end = self.tokens[self.at].end
        if not self.accept("!"):
            return -1
        if self.place() != end or self.tokens[self.at].text not in CONVERSIONS:
            self.fail()
        return CONVERSIONS[self.take_name()]


def _numbers_of(pieces):
    numbers = []
    for piece in pieces:
        numbers += piece.value.numbers
    return tuple(numbers)


def _values_of(pieces):
    """Return the values of a JoinedStr: a Constant for all text between two fields, and the fields."""
    values = []
    texts = []
    for piece in pieces:
        if not isinstance(piece, Node):
            texts.append(piece)
            continue
        values += _constants_of(texts) + [piece]
        texts = []
    return values + _constants_of(texts)


def _constants_of(texts):
    """Return a list of the Constant of the tokens of texts; without one if they are empty."""
    value = "".join([token.value for token in texts])
    if not value:
        return []
    constant = Node("Constant", value)
    constant.lineno, constant.col_offset = texts[0].start
    constant.end_lineno, constant.end_col_offset = texts[-1].end
    return [constant]
