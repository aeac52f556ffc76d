"""The values of constants that are no plain integers, strings, True, False or None."""


class Dots:
    """The value of the constant that is written as three points."""

    def __eq__(self, other):
        return isinstance(other, Dots)


class Float:
    """The value of a float literal: mantissa times 2 to the power of exponent."""

    def __init__(self, mantissa, exponent):
        self.mantissa = mantissa
        self.exponent = exponent

    def __eq__(self, other):
        return isinstance(other, Float) and self.mantissa == other.mantissa and self.exponent == other.exponent


class Imaginary:
    """The value of an imaginary literal: its number is a Float."""

    def __init__(self, number):
        self.number = number

    def __eq__(self, other):
        return isinstance(other, Imaginary) and self.number == other.number


class Octets:
    """The value of strings with b: the tuple of their numbers."""

    def __init__(self, numbers):
        self.numbers = numbers

    def __eq__(self, other):
        return isinstance(other, Octets) and self.numbers == other.numbers
