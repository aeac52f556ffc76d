"""float_of and float_text, against Python's own floats."""

import math
import random
import struct
import unittest
from fractions import Fraction

from treequill.errors import BadFloat, TreeError
from treequill.floats import float_of, float_text
from treequill.values import Dots, Float, Imaginary, Octets

GREATEST = Float(2 ** 53 - 1, 971)
LEAST = Float(1, -1074)
INFINITE = Float(1, 1024)


def float_from(number):
    """Return the Float of one of Python's floats."""
    if math.isinf(number):
        return INFINITE
    if number == 0:
        return Float(0, 0)
    mantissa, below = number.as_integer_ratio()
    exponent = 1 - below.bit_length()
    while mantissa % 2 == 0:
        mantissa //= 2
        exponent += 1
    return Float(mantissa, exponent)


def decimals(fraction):
    """Return the text of a fraction whose denominator is a power of 2, without loss."""
    places = fraction.denominator.bit_length()
    whole, rest = divmod(fraction.numerator * 10 ** places // fraction.denominator, 10 ** places)
    return f"{whole}.{rest:0{places}d}"


def some_floats(seed, many):
    chance = random.Random(seed)
    for _ in range(many):
        yield abs(struct.unpack("d", struct.pack("Q", chance.getrandbits(63)))[0])
        yield struct.unpack("d", struct.pack("Q", chance.getrandbits(chance.randint(1, 53))))[0]
        yield math.ldexp(1, chance.randint(-1074, 1023))
        yield float(f"{chance.randint(1, 9999)}e{chance.randint(-30, 30)}")
        yield chance.random() * 10 ** chance.randint(-6, 19)
        yield float(10 ** chance.randint(0, 300))
        yield math.nextafter(float(10 ** chance.randint(0, 25)), 0)


class FloatOfTest(unittest.TestCase):
    def assert_float(self, text, mantissa, exponent):
        found = float_of(text)
        self.assertEqual((found.mantissa, found.exponent), (mantissa, exponent), text)

    def test_plain_ones(self):
        self.assert_float("1.0", 1, 0)
        self.assert_float("0.5", 1, -1)
        self.assert_float("0.1", 3602879701896397, -55)
        self.assert_float("12.5", 25, -1)
        self.assert_float("1e3", 125, 3)
        self.assert_float("6", 3, 1)
        self.assert_float("0.0", 0, 0)
        self.assert_float("0e99", 0, 0)

    def test_all_forms(self):
        for text in ("1.5", "1.", ".5", "1e5", "1E5", "1e+5", "1e-5", "1.e5", ".5e-5", "1.5E+05", "007", "00.50",
            "0_0",
                     "1_0.2_5e1_0", "1_2", "0", "0e0", "000", "123456789", "1_000_000.000_1"):
            self.assertEqual(float_of(text), float_from(float(text)), text)

    def test_texts_that_are_none(self):
        for text in ("", ".", "e5", ".e5", "1e", "1e+", "1e_5", "1__0", "_1", "1_", "1_.5", "1._5", "1.5_", "1.5j",
            "1j",
                     "+1", "-1", " 1", "1 ", "1.5.2", "1e5.0", "0x1", "0b1", "inf", "nan", "infinity", "a", "1,5",
                     "1e5_",
                     "1\n", "\uff11", "\u00b2", "1e\uff11", "1.5\n", "--1", "1e--5", "1_e5", "1e5e5", "1..", "..1"):
            with self.assertRaises(BadFloat, msg=text):
                float_of(text)

    def test_the_error_is_one_of_trees(self):
        self.assertTrue(issubclass(BadFloat, TreeError))
        with self.assertRaises(ValueError):
            float_of("x")

    def test_the_middle_between_two_floats(self):
        chance = random.Random(4)
        numbers = [1.0, 2.0, 3.0, 0.1, 2.0 ** 53, 2.0 ** 53 + 2, 5e-324, 2.2250738585072014e-308]
        numbers += [chance.random() * 10.0 ** chance.randint(-20, 20) for _ in range(100)]
        for number in numbers:
            above = math.nextafter(number, math.inf)
            middle = (Fraction(number) + Fraction(above)) / 2
            text = decimals(middle)
            even = number if self.has_even_mantissa(number) else above
            self.assertEqual(float_of(text), float_from(even), text)
            self.assertEqual(float_of(text + "000001"), float_from(above), text)
            less = decimals(middle - Fraction(1, 2 ** 1200) if number < 1e-290 else middle - Fraction(1, 2 ** 300))
            self.assertEqual(float_of(less), float_from(number), text)

    def has_even_mantissa(self, number):
        return struct.unpack("Q", struct.pack("d", number))[0] % 2 == 0

    def test_the_middle_in_few_digits(self):
        # 2 ** 53 + 1 and 2 ** 53 + 3 stand in the very middle.
        self.assertEqual(float_of("9007199254740993"), Float(1, 53))
        self.assertEqual(float_of("9007199254740993.0000000000000001"), float_from(2.0 ** 53 + 2))
        self.assertEqual(float_of("9007199254740992.9999999999999999"), Float(1, 53))
        self.assertEqual(float_of("9007199254740995"), float_from(2.0 ** 53 + 4))
        self.assertEqual(float_of("9007199254740994.99"), float_from(2.0 ** 53 + 2))
        self.assertEqual(float_of("1152921504606847104"), Float(1, 60))
        self.assertEqual(float_of("1152921504606847105"), float_from(float(2 ** 60 + 256)))

    def test_around_the_greatest(self):
        greatest = (2 ** 53 - 1) * 2 ** 971
        middle = greatest + 2 ** 970
        self.assertEqual(float_of("1.7976931348623157e308"), GREATEST)
        self.assertEqual(float_of("1.7976931348623158e308"), GREATEST)
        self.assertEqual(float_of("1.7976931348623159e308"), INFINITE)
        self.assertEqual(float_of(str(middle - 1)), GREATEST)
        self.assertEqual(float_of(str(middle)), INFINITE)
        self.assertEqual(float_of(str(middle - 1) + ".99"), GREATEST)
        self.assertEqual(float_of("1e308"), float_from(1e308))
        for text in ("1e309", "1e9999", "99999999999999999999e9980", "2e308", "1e99999999999"):
            self.assert_float(text, 1, 1024)

    def test_around_the_least(self):
        self.assertEqual(float_of("5e-324"), LEAST)
        self.assertEqual(float_of("4.9406564584124654e-324"), LEAST)
        self.assertEqual(float_of("2.4703282292062327e-324"), Float(0, 0))
        self.assertEqual(float_of("2.4703282292062328e-324"), LEAST)
        self.assertEqual(float_of(decimals(Fraction(1, 2 ** 1075))), Float(0, 0))
        self.assertEqual(float_of(decimals(Fraction(1, 2 ** 1075)) + "1"), LEAST)
        self.assertEqual(float_of(decimals(Fraction(3, 2 ** 1075))), Float(1, -1073))
        self.assertEqual(float_of("2.2250738585072014e-308"), Float(1, -1022))
        for text in ("1e-325", "1e-9999", "0.00001e-330", "1e-99999999999"):
            self.assert_float(text, 0, 0)

    def test_against_python(self):
        chance = random.Random(9)
        for _ in range(3000):
            whole, rest = (chance.randint(0, 10 ** chance.randint(0, 20)) for _ in range(2))
            text = chance.choice([f"{whole}.{rest}e{chance.randint(-350, 330)}", f"{whole}.{rest}", f"{whole}",
                f".{rest}"])
            self.assertEqual(float_of(text), float_from(float(text)), text)

    def test_arguments_by_name(self):
        self.assertEqual(float_of(text="2.0"), Float(1, 1))
        self.assertEqual(float_text(value=Float(1, 1)), "2.0")


class FloatTextTest(unittest.TestCase):
    def test_examples(self):
        for text in ("0.0001", "12.5", "100000.0", "1e+16", "1.5e-07", "0.0", "1e309"):
            self.assertEqual(float_text(float_of(text)), text)

    def test_where_the_exponent_begins(self):
        for text in ("9999999999999998.0", "1e+16", "1.2345e+16", "0.00012345", "9.9999e-05", "1e-05", "0.0001",
                     "1000000000000000.0", "123456789012345.6", "1234567890123456.0", "1.2345678901234568e+16",
                     "1e+100"):
            self.assertEqual(float_text(float_of(text)), text)

    def test_the_greatest_the_least_and_the_infinite_one(self):
        self.assertEqual(float_text(GREATEST), "1.7976931348623157e+308")
        self.assertEqual(float_text(LEAST), "5e-324")
        self.assertEqual(float_text(Float(1, -1073)), "1e-323")
        self.assertEqual(float_text(Float(1, -1022)), "2.2250738585072014e-308")
        self.assertEqual(float_text(Float(2 ** 52 - 1, -1074)), "2.225073858507201e-308")
        self.assertEqual(float_text(INFINITE), "1e309")
        self.assertEqual(float_text(Float(0, 0)), "0.0")
        self.assertEqual(float_text(Float(1, 1023)), "8.98846567431158e+307")

    def test_against_python(self):
        for number in some_floats(3, 700):
            if not math.isfinite(number):
                continue
            value = float_from(number)
            text = float_text(value)
            self.assertEqual(text, repr(number))
            self.assertEqual(float_of(text), value)

    def test_what_is_none(self):
        for value in (Float(2, 0), Float(6, 3), Float(0, 1), Float(-1, 0), Float(1, 1025), Float(3, 1024),
            Float(1, -1075),
                      Float(2 ** 53 + 1, 0), Float(3, 1023), Float(2 ** 53 - 1, 972), Float(True, 0), Float(1, False),
                      Float(0, False), Float(False, 0), Float(1.0, 0), Float(1, 0.0), Float(None, None),
                      Float("1", 0),
                      Float(Float(1, 0), 0), Float(1, -2000), Float(-0.0, 0), Float([1], 0), Float(0, -1)):
            with self.assertRaises(BadFloat, msg=(value.mantissa, value.exponent)):
                float_text(value)
        for value in (1.5, 1, True, None, "1.0", (1, 0), [], Dots(), Imaginary(Float(1, 0)), Octets(()), Float,
            object()):
            with self.assertRaises(BadFloat, msg=value):
                float_text(value)

    def test_what_is_one(self):
        self.assertEqual(float_text(Float(3, 1022)), repr(3 * 2.0 ** 1022))
        self.assertEqual(float_text(Float(2 ** 53 - 1, -1074)), repr((2 ** 53 - 1) * 2.0 ** -1074))
        self.assertEqual(float_text(Float(3, -1074)), "1.5e-323")
        self.assertEqual(float_text(Float(5, 100)), repr(5 * 2.0 ** 100))

    def test_a_float_that_is_passed_stays_as_it_is(self):
        value = Float(25, -1)
        float_text(value)
        self.assertEqual((value.mantissa, value.exponent), (25, -1))
        self.assertIsNot(float_of("0.5"), float_of("0.5"))


if __name__ == "__main__":
    unittest.main()
