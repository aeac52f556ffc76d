"""Strings in texts: their prefixes, their quotes, and the escapes in their bodies."""

from treequill.characters import character, has_character
from treequill.values import Octets

# For each prefix of a string, in small letters, whether it has r, b and f.
PREFIXES = {
    "": (False, False, False),
    "r": (True, False, False),
    "b": (False, True, False),
    "br": (True, True, False),
    "rb": (True, True, False),
    "f": (False, False, True),
    "fr": (True, False, True),
    "rf": (True, False, True),
}
QUOTES = "'\""
# The numbers of the characters behind a backslash; of the last five only with b.
SIMPLE_ESCAPES = {"\\": 92, "'": 39, "\"": 34, "n": 10, "t": 9}
OCTET_ESCAPES = {"a": 7, "b": 8, "f": 12, "v": 11, "r": 13}
OCTAL = "01234567"
HEXADECIMAL = "0123456789abcdefABCDEF"


def quote_at(text, at):
    """Return the quote, single or triple, at a place; the empty string if there is none."""
    quote = text[at:at + 1]
    if quote == "" or quote not in QUOTES:
        return ""
    return quote * 3 if text.startswith(quote * 3, at) else quote


def string_at(text, at, quote, raw, octets):
    """Return the value of the string whose body begins at a place, and its end.

    The value is None if the string is refused: then the end is the place at which no program goes on.
    """
    pieces = []
    while not text.startswith(quote, at):
        piece, at = _piece_at(text, at, quote, raw, octets)
        if piece is None:
            return None, at
        pieces.append(piece)
    end = at + len(quote)
    if octets:
        return Octets(tuple(_numbers_of(pieces))), end
    return _joined(pieces), end


def text_at(text, at, quote, raw):
    """Return the text of an f-string at a place, and its end: there a field begins, or the f-string ends.

    The text is None if it is refused: then the end is the place at which no program goes on.
    """
    pieces = []
    while not text.startswith(quote, at):
        sign = text[at:at + 1]
        if sign in ("{", "}"):
            if text.startswith(sign * 2, at):
                pieces.append(sign)
                at += 2
                continue
            if sign == "{":
                break
            return None, at
        # In a raw text a backslash does not take a brace behind it.
        if raw and sign == "\\" and text[at + 1:at + 2] in ("{", "}"):
            piece, at = sign, at + 1
        else:
            piece, at = _piece_at(text, at, quote, raw, False)
        if piece is None:
            return None, at
        pieces.append(piece)
    return _joined(pieces), at


def _piece_at(text, at, quote, raw, octets):
    """Return the character or the escape at a place, and its end.

    It is a string, or the number of an escape; None if it is refused, then the end is the place of that.
    """
    if at >= len(text):
        return None, len(text)
    if text[at] == "\n" and len(quote) == 1:
        return None, at
    if text[at] != "\\":
        return text[at], at + 1
    if at + 1 == len(text):
        return None, len(text)
    if raw:
        return text[at:at + 2], at + 2
    return _escape_at(text, at, octets)


def _escape_at(text, at, octets):
    """Return the same as _piece_at for a backslash in a string without r, that is not the last character."""
    sign = text[at + 1]
    if sign == "\n":
        return "", at + 2
    if sign in SIMPLE_ESCAPES:
        return SIMPLE_ESCAPES[sign], at + 2
    if octets and sign in OCTET_ESCAPES:
        return OCTET_ESCAPES[sign], at + 2
    if sign == "x":
        digits = _digits_at(text, at + 2, HEXADECIMAL, 2)
        end = at + 2 + len(digits)
        number = int(digits, 16) if len(digits) == 2 else None
    else:
        digits = _digits_at(text, at + 1, OCTAL, 3)
        end = at + 1 + len(digits)
        number = int(digits, 8) if digits else None
    # Such an escape may go on behind the end of the text.
    if end == len(text) and (number is None or sign != "x"):
        return None, end
    if number is None or number > 255 or not octets and not has_character(number):
        return None, at
    return number, end


def _digits_at(text, at, digits, most):
    """Return the digits at a place, so many at most."""
    end = at
    while end < min(len(text), at + most) and text[end] in digits:
        end += 1
    return text[at:end]


def _joined(pieces):
    return "".join([piece if isinstance(piece, str) else character(piece) for piece in pieces])


def _numbers_of(pieces):
    numbers = []
    for piece in pieces:
        numbers += [ord(sign) for sign in piece] if isinstance(piece, str) else [piece]
    return numbers
