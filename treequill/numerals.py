"""Numbers in texts."""

from treequill.floats import DIGITS, decimal_at, digits_end, float_of
from treequill.values import Imaginary

# The letters ahead of the digits of a base, and these digits.
BASES = {
    "x": (16, "0123456789abcdefABCDEF"),
    "o": (8, "01234567"),
    "b": (2, "01"),
}


def begins_number(text, at):
    """Tell whether a number begins at a place."""
    digit = at + 1 if text.startswith(".", at) else at
    return digit < len(text) and text[digit] in DIGITS


def number_at(text, at):
    """Return the value of the number at a place, and its end; the end None if the number is refused."""
    value, end = _longest_number(text, at)
    behind = text[end:end + 1]
    if value is None or behind.isalnum() or behind == "_":
        return None, None
    return value, end


def _longest_number(text, at):
    """Return the value of the longest number at a place, and its end; the value None for digits that are none."""
    based = text[at + 1:at + 2].lower()
    if text[at] == "0" and based in BASES:
        base, digits = BASES[based]
        end = _based_end(text, at + 2, digits)
        if end > at + 2:
            return int(text[at + 2:end].replace("_", ""), base), end
    end = decimal_at(text, at)[3]
    if text[end:end + 1] in ("j", "J"):
        return Imaginary(float_of(text[at:end])), end + 1
    if end > digits_end(text, at):
        return float_of(text[at:end]), end
    digits = text[at:end].replace("_", "")
    if digits[0] == "0" and digits.strip("0"):
        return None, end
    return int(digits), end


def _based_end(text, at, digits):
    """Return the place behind the digits of a base, each of which may have one _ ahead."""
    end = at
    while True:
        digit = end + 1 if text.startswith("_", end) else end
        if digit >= len(text) or text[digit] not in digits:
            return end
        end = digit + 1
