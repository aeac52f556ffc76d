"""Names and values in nodes that no text has."""

from treequill.characters import is_string_of_texts
from treequill.floats import is_float
from treequill.kinds import FIELDS
from treequill.plain import is_int
from treequill.tokens import KEYWORDS
from treequill.values import Float, Imaginary, Octets

NAME_RULES = ("NAME", "DOTTED", "DOTTED_OR_STAR")


def wrong_name(node):
    """Tell whether one of the names in the fields of a node is a keyword."""
    for name, rule, _ in FIELDS[node.kind]:
        if rule in NAME_RULES:
            value = node[name]
            words = value if isinstance(value, list) else [value]
            if any([word is not None and _has_keyword(word) for word in words]):
                return True
    return False


def _has_keyword(word):
    return any([part in KEYWORDS for part in word.split(".")])


def wrong_value(node):
    """Tell whether a node is a Constant with a value that no literal has."""
    if node.kind != "Constant":
        return False
    value = node["value"]
    if isinstance(value, Octets):
        return not _is_row_of_octets(value.numbers)
    if isinstance(value, Float):
        return not is_float(value)
    if isinstance(value, Imaginary):
        return not is_float(value.number)
    return isinstance(value, str) and not is_string_of_texts(value)


def _is_row_of_octets(numbers):
    return isinstance(numbers, tuple) and all([is_int(number) and 0 <= number <= 255 for number in numbers])
