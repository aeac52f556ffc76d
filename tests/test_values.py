"""Promise 15: the four classes of values and when they are equal."""

import unittest

from treequill import values
from treequill.nodes import Node
from treequill.values import Dots, Float, Imaginary, Octets


class EqualToAll:
    def __eq__(self, other):
        return True

    def __ne__(self, other):
        return False


class Alike:
    """An object of another class with the same attributes."""

    mantissa = 1
    exponent = 2
    number = 1
    numbers = (1,)


NODE = Node("Pass")
# For each class, what it is made with: no two rows make equal objects.
MADE = (
    (Dots,),
    (Float, 1, 2),
    (Float, 2, 1),
    (Float, 1, 3),
    (Float, 3, 2),
    (Float, 0, 0),
    (Float, -1, 2),
    (Float, None, "a"),
    (Float, [1], (1,)),
    (Float, (1,), [1]),
    (Float, Dots(), NODE),
    (Float, Float(1, 2), 2),
    (Imaginary, 1),
    (Imaginary, 2),
    (Imaginary, None),
    (Imaginary, "1"),
    (Imaginary, Float(1, 2)),
    (Imaginary, Float(1, 3)),
    (Imaginary, Imaginary(Float(1, 2))),
    (Imaginary, Octets((1,))),
    (Imaginary, NODE),
    (Octets, ()),
    (Octets, []),
    (Octets, (1,)),
    (Octets, (1, 2)),
    (Octets, [1, 2]),
    (Octets, 1),
    (Octets, "ab"),
    (Octets, (Dots(), Octets(()))),
    (Octets, (Dots(), Octets((1,)))),
)
OTHERS = (
    None, True, False, 0, 1, 2, 1.0, 1j, "", "a", b"", b"\x01", (), (1,), (1, 2), [], [1, 2], {}, ...,
    Alike(), Dots, Float, Imaginary, Octets, Node("Constant", 1), object(),
)


def make(row):
    return row[0](*row[1:])


class ValuesTest(unittest.TestCase):
    def assertSame(self, one, other):
        self.assertIs(one == other, True)
        self.assertIs(other == one, True)
        self.assertIs(one != other, False)
        self.assertIs(other != one, False)

    def assertOther(self, one, other):
        self.assertIs(one == other, False)
        self.assertIs(other == one, False)
        self.assertIs(one != other, True)
        self.assertIs(other != one, True)

    def test_alike(self):
        for row in MADE:
            self.assertSame(make(row), make(row))
            one = make(row)
            self.assertSame(one, one)

    def test_different(self):
        for at, one in enumerate(MADE):
            for other in MADE[at + 1:]:
                self.assertOther(make(one), make(other))

    def test_other_objects(self):
        for row in MADE:
            for other in OTHERS:
                self.assertOther(make(row), other)

    def test_equal_nothing_else_whatever_it_says(self):
        for row in MADE:
            self.assertIs(make(row) == EqualToAll(), False)
            self.assertIs(make(row) != EqualToAll(), True)

    def test_attributes_are_the_objects_passed(self):
        for thing in (None, True, -1, "a", [1], (1,), {}, object(), Dots(), Float(1, 2), NODE):
            self.assertIs(Float(thing, 1).mantissa, thing)
            self.assertIs(Float(1, thing).exponent, thing)
            self.assertIs(Imaginary(thing).number, thing)
            self.assertIs(Octets(thing).numbers, thing)

    def test_made_by_names(self):
        self.assertSame(Float(exponent=2, mantissa=1), Float(1, 2))
        self.assertSame(Imaginary(number=Float(1, 2)), Imaginary(Float(1, 2)))
        self.assertSame(Octets(numbers=(1, 2)), Octets((1, 2)))

    def test_equal_attributes_of_other_kinds(self):
        self.assertSame(Float(True, 0), Float(1, False))
        self.assertSame(Octets([True]), Octets([1]))
        self.assertOther(Imaginary(Node("Pass")), Imaginary(Node("Pass")))

    def test_changed_attributes(self):
        one, other = Float(1, 2), Float(1, 2)
        other.exponent = 3
        self.assertOther(one, other)
        numbers = [1]
        one, other = Octets(numbers), Octets([1])
        numbers.append(2)
        self.assertOther(one, other)

    def test_inside_of_lists_and_tuples(self):
        self.assertEqual([Dots(), (Float(1, 2),)], [Dots(), (Float(1, 2),)])
        self.assertIn(Octets((1,)), [Dots(), Octets((1,))])
        self.assertNotIn(Octets((2,)), [Dots(), Octets((1,))])

    def test_where_they_are_defined(self):
        for made in (Dots, Float, Imaginary, Octets):
            self.assertEqual(made.__module__, values.__name__)
            self.assertIn("__eq__", vars(made))


if __name__ == "__main__":
    unittest.main()
