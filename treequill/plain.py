"""Checks of the plain values in the fields of nodes."""

from treequill.values import Dots, Float, Imaginary, Octets


def is_int(thing):
    """Tell whether an object is an integer: True and False are none."""
    return isinstance(thing, int) and not isinstance(thing, bool)


def is_bit(thing):
    return is_int(thing) and thing in (0, 1)


def is_count(thing):
    return is_int(thing) and thing >= 0


def is_conversion(thing):
    return is_int(thing) and thing in (-1, 97, 114, 115)


def is_name(thing):
    """Tell whether an object is a string of a letter or _, then letters, digits and _."""
    return isinstance(thing, str) and thing.isascii() and thing.isidentifier()


def is_dotted(thing):
    return isinstance(thing, str) and all([is_name(part) for part in thing.split(".")])


def is_dotted_or_star(thing):
    return is_dotted(thing) or isinstance(thing, str) and thing == "*"


def is_singleton(thing):
    # By identity: 0 and 1 equal False and True.
    return thing is None or thing is True or thing is False


def is_value(thing):
    """Tell whether an object may be the value of a Constant."""
    return (
        is_singleton(thing)
        or is_count(thing)
        or isinstance(thing, (str, Dots, Float, Imaginary, Octets))
    )


CHECKS = {
    "BIT": is_bit,
    "COUNT": is_count,
    "CONVERSION": is_conversion,
    "NAME": is_name,
    "DOTTED": is_dotted,
    "DOTTED_OR_STAR": is_dotted_or_star,
    "SINGLETON": is_singleton,
    "VALUE": is_value,
}
