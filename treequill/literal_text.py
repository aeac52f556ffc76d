"""Writes the values of constants."""

from treequill.characters import FIRST, LINE_FEED, PLAIN, TAB, has_character
from treequill.floats import float_text, imaginary_text
from treequill.values import Dots, Float, Imaginary, Octets

CARRIAGE_RETURN = 13
HEXADECIMAL = "0123456789abcdef"


def value_text(value):
    """Return the text of the value of a Constant."""
    if isinstance(value, str):
        return string_text(value)
    if isinstance(value, Octets):
        return octets_text(value.numbers)
    if isinstance(value, Float):
        return float_text(value)
    if isinstance(value, Imaginary):
        return imaginary_text(value)
    if isinstance(value, Dots):
        return "..."
    return str(value)


def string_text(text):
    quote = _quote_for(text)
    return quote + escaped(text, quote) + quote


def octets_text(numbers):
    """Return the text of a string with b."""
    signs = "".join([PLAIN[number - FIRST] for number in numbers if number in (34, 39)])
    quote = _quote_for(signs)
    return "b" + quote + "".join([_octet_text(number, quote) for number in numbers]) + quote


def escaped(text, quote):
    """Return what stands for a text between quotes."""
    text = text.replace("\\", "\\\\").replace("\n", "\\n").replace("\t", "\\t")
    return text.replace(quote, "\\" + quote)


def _quote_for(text):
    return "\"" if "'" in text and "\"" not in text else "'"


def _octet_text(number, quote):
    if number == LINE_FEED:
        return "\\n"
    if number == TAB:
        return "\\t"
    if number == CARRIAGE_RETURN:
        return "\\r"
    if not has_character(number):
        high, low = divmod(number, 16)
        return f"\\x{HEXADECIMAL[high]}{HEXADECIMAL[low]}"
    return escaped(PLAIN[number - FIRST], quote)
