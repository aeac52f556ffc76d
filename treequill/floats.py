"""Floats: read from texts, and written with as few digits as possible, by integers alone."""

from treequill.errors import BadFloat
from treequill.plain import is_int
from treequill.values import Float

DIGITS = "0123456789"
MANTISSA_BITS = 53
LEAST_EXPONENT = -1074
INFINITE_EXPONENT = 1024
# No finite float has more digits ahead of its point, and no float but 0 more zeros behind it.
MOST_PLACES = 330
# Any float is told from its neighbours by so many digits.
MOST_DIGITS = 17


def float_of(text):
    """Return the Float of a text that is a float literal or digits."""
    if not isinstance(text, str):
        raise BadFloat()
    whole, fraction, exponent, end = decimal_at(text, 0)
    if end == 0 or end < len(text):
        raise BadFloat()
    digits = (whole + fraction).replace("_", "").lstrip("0")
    if not digits:
        return Float(0, 0)
    power = _power_of(exponent) - len(fraction.replace("_", ""))
    # Ahead of the large numbers that such exponents would ask for.
    if len(digits) + power > MOST_PLACES:
        return Float(1, INFINITE_EXPONENT)
    if len(digits) + power < -MOST_PLACES:
        return Float(0, 0)
    return _nearest(int(digits) * ten_to(power), ten_to(-power))


def decimal_at(text, at):
    """Return the parts of the float or the digits at a place: whole, fraction, exponent, and their end.

    The end is the place itself if there are none. The exponent is what stands behind its letter.
    """
    whole_end = digits_end(text, at)
    end = whole_end
    if text.startswith(".", end):
        end = digits_end(text, end + 1)
    if end == whole_end + 1 and whole_end == at:
        return "", "", "", at
    whole, fraction = text[at:whole_end], text[whole_end + 1:end]
    exponent_end = _exponent_end(text, end) if end > at else end
    return whole, fraction, text[end + 1:exponent_end], exponent_end


def digits_end(text, at):
    """Return the place behind the DIGITS at a place: the place itself if there are none."""
    end = at
    while _has_digit(text, end) or end > at and text.startswith("_", end) and _has_digit(text, end + 1):
        end += 1
    return end


def _has_digit(text, at):
    return at < len(text) and text[at] in DIGITS


def _exponent_end(text, at):
    """Return the place behind the exponent at a place: the place itself if there is none."""
    if text[at:at + 1] not in ("e", "E"):
        return at
    begin = at + 2 if text[at + 1:at + 2] in ("+", "-") else at + 1
    end = digits_end(text, begin)
    return end if end > begin else at


def _power_of(exponent):
    """Return the number of an exponent; of a huge one another that is huge enough."""
    digits = exponent.replace("_", "").lstrip("+-").lstrip("0")
    power = int(digits[:10]) if digits else 0
    return -power if exponent.startswith("-") else power


def ten_to(power):
    """Return 10 to a power: 1 if this is below 0."""
    number = 1
    for _ in range(power):
        number *= 10
    return number


def _nearest(above, below):
    """Return the Float that is nearest to above // below, a fraction that is not 0."""
    exponent = max(above.bit_length() - below.bit_length() - MANTISSA_BITS, LEAST_EXPONENT)
    mantissa = _rounded(above, below, exponent)
    if mantissa.bit_length() > MANTISSA_BITS:
        # The fraction is rounded once: the mantissa that was too large is not used.
        exponent += 1
        mantissa = _rounded(above, below, exponent)
    if mantissa == 0:
        return Float(0, 0)
    while mantissa & 1 == 0:
        mantissa >>= 1
        exponent += 1
    if mantissa.bit_length() + exponent > INFINITE_EXPONENT:
        return Float(1, INFINITE_EXPONENT)
    return Float(mantissa, exponent)


def _rounded(above, below, exponent):
    """Return the integer nearest to a fraction over 2 to the exponent; of two the even one."""
    if exponent > 0:
        below <<= exponent
    else:
        above <<= -exponent
    number, rest = divmod(above, below)
    if 2 * rest > below or 2 * rest == below and number & 1 == 1:
        number += 1
    return number


def is_float(value):
    """Tell whether an object is the value of a float literal."""
    if not isinstance(value, Float) or not is_int(value.mantissa) or not is_int(value.exponent):
        return False
    mantissa, exponent = value.mantissa, value.exponent
    if mantissa == 0:
        return exponent == 0
    if mantissa == 1 and exponent == INFINITE_EXPONENT:
        return True
    bits = mantissa.bit_length()
    return (
        mantissa > 0
        and mantissa & 1 == 1
        and bits <= MANTISSA_BITS
        and exponent >= LEAST_EXPONENT
        and bits + exponent <= INFINITE_EXPONENT
    )


def float_text(value):
    """Return the shortest text of a Float."""
    if not is_float(value):
        raise BadFloat()
    if value.exponent == INFINITE_EXPONENT:
        return "1e309"
    if value.mantissa == 0:
        return "0.0"
    digits, point = _shortest(value.mantissa, value.exponent)
    if point < -3 or point > 16:
        return _scientific(digits, point - 1)
    if point <= 0:
        return "0." + "0" * -point + digits
    whole = digits[:point].ljust(point, "0")
    return f"{whole}.{digits[point:] or '0'}"


def imaginary_text(value):
    """Return the text of an Imaginary of which the number is a Float."""
    return float_text(value.number).removesuffix(".0") + "j"


def _scientific(digits, exponent):
    sign = "-" if exponent < 0 else "+"
    point = "." if len(digits) > 1 else ""
    return f"{digits[0]}{point}{digits[1:]}e{sign}{abs(exponent):02d}"


def _shortest(mantissa, exponent):
    """Return as few digits as tell this float, and where the point stands in them."""
    # Four times the mantissa: the borders lie a half, or below a power of 2 a quarter, beside it.
    exponent -= 2
    width = MANTISSA_BITS - mantissa.bit_length()
    shift = max(0, min(width, exponent + 2 - LEAST_EXPONENT))
    exponent -= shift
    mantissa <<= shift
    apart = 1 if mantissa == 1 << (MANTISSA_BITS - 1) and exponent + 2 > LEAST_EXPONENT else 2
    even = mantissa & 1 == 0
    unit = 1 << max(0, -exponent)
    shift = max(0, exponent)
    middle = 4 * mantissa << shift
    low = middle - (apart << shift)
    high = middle + (2 << shift)
    point = _point_of(middle, unit)
    raised = ten_to(MOST_DIGITS - point)
    unit *= ten_to(point - MOST_DIGITS)
    for count in range(1, MOST_DIGITS + 1):
        step = unit * ten_to(MOST_DIGITS - count)
        found = _digits_between(low * raised, middle * raised, high * raised, step, even)
        if found is not None:
            break
    digits = str(found)
    return digits.rstrip("0"), point + len(digits) - count


def _point_of(above, below):
    """Return the least number of which 10 to its power is larger than above // below."""
    if above >= below:
        return len(str(above // below))
    point = 1 - len(str(below // above))
    # A power of ten itself has one digit more.
    return point + 1 if above * ten_to(-point) >= below else point


def _digits_between(low, middle, high, step, even):
    """Return the number whose product with a step is nearest to the middle, and between the borders.

    An even mantissa is what the borders themselves are rounded to. Return None if there is no such number.
    """
    below, rest = divmod(middle, step)
    choices = [below, below + 1]
    if 2 * rest > step or 2 * rest == step and below & 1 == 1:
        choices = [below + 1, below]
    for number in choices:
        place = number * step
        if low < place < high or even and place in (low, high):
            return number
    return None
