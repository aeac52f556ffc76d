"""The characters of strings, and the numbers that stand for them."""

# From the space on, in the order of their numbers; a space stands for the sign for remainders, number 37.
PLAIN = (
    " !\"#$ &'()*+,-./0123456789:;<=>?"
    "@ABCDEFGHIJKLMNOPQRSTUVWXYZ[\\]^_"
    "`abcdefghijklmnopqrstuvwxyz{|}~"
)
FIRST = 32
BARRED = 37
TAB = 9
LINE_FEED = 10


def has_character(number):
    """Tell whether a number stands for a character of strings."""
    return number in (TAB, LINE_FEED) or number != BARRED and FIRST <= number < FIRST + len(PLAIN)


def character(number):
    """Return the character that a number stands for."""
    if number == TAB:
        return "\t"
    if number == LINE_FEED:
        return "\n"
    return PLAIN[number - FIRST]


def is_string_of_texts(text):
    """Tell whether a string has no other characters than those of strings in texts."""
    return all([has_character(ord(sign)) for sign in text])
