"""The floats that may be handed in, for each float of each call."""

import unittest
from fractions import Fraction

from tests.calls import FLOATS, MOST_Z, desk_after, echo, once_open, opening

LEAST = Fraction(1, 2 ** 20)
UNIT = Fraction(1, 2 ** 149)


def value(z, e):
    return z * Fraction(2) ** e


class EachFloat(unittest.TestCase):
    def expect(self, answer, written):
        for make, name, most in FLOATS:
            with self.subTest(call=make.__name__, name=name, written=written):
                self.assertEqual(once_open(make(**{name: written})), answer)

    def test_nought_with_any_e(self):
        for e in (-200, -150, -149, -44, -20, -1, 0, 1, 2, 127, 200):
            self.expect(0, (0, e))

    def test_the_least(self):
        for written in ((1, -20), (2, -21), (2 ** 23, -43), (MOST_Z, -44), (2 ** 23 + 1, -43)):
            self.expect(0, written)

    def test_below_the_least(self):
        for written in ((MOST_Z - 1, -44), (1, -21), (MOST_Z, -45), (1, -149), (1, -200), (MOST_Z, -200)):
            self.expect(-2, written)

    def test_one(self):
        for written in ((1, 0), (2, -1), (2 ** 23, -23), (MOST_Z, -24), (MOST_Z - 1, -24)):
            self.expect(0, written)

    def test_above_two(self):
        for written in ((2 ** 22 + 1, -21), (2 ** 23 + 1, -22), (3, 0), (1, 2), (1, 200), (MOST_Z, 200), (MOST_Z, 0)):
            self.expect(-2, written)

    def test_above_one_is_for_damp_alone(self):
        for make, name, most in FLOATS:
            for written in ((2 ** 23 + 1, -23), (3, -1), (MOST_Z - 1, -23), (2, 0), (1, 1), (MOST_Z, -23)):
                with self.subTest(call=make.__name__, name=name, written=written):
                    answer = 0 if name == "damp" else -2
                    self.assertEqual(once_open(make(**{name: written})), answer)

    def test_below_nought(self):
        for written in ((-1, 0), (-1, -20), (-1, -200), (-1, 200), (-MOST_Z, -24), (-MOST_Z, -200), (-MOST_Z, 200)):
            self.expect(-2, written)

    def test_every_e_with_many_z(self):
        zs = (1, 3, 2 ** 12 - 1, 2 ** 12, 2 ** 12 + 1, 2 ** 23 - 1, 2 ** 23, 2 ** 23 + 1, MOST_Z - 1, MOST_Z)
        for make, name, most in FLOATS:
            for e in range(-200, 201):
                for z in zs:
                    answer = 0 if LEAST <= value(z, e) <= most else -2
                    told = once_open(make(**{name: (z, e)}))
                    self.assertEqual(told, answer, (make.__name__, name, z, e))


class WhatIsKept(unittest.TestCase):
    def kept(self, make, name, written):
        desk = desk_after(opening(), make(5, **{name: written}))
        holder = desk.echo if make is echo else desk.voices[5]
        return getattr(holder, name) * UNIT

    def test_the_very_float(self):
        for make, name, most in FLOATS:
            for written in ((0, -200), (0, 200), (1, -20), (MOST_Z, -44), (5, -7), (MOST_Z - 1, -24), (most, 0)):
                with self.subTest(call=make.__name__, name=name, written=written):
                    self.assertEqual(self.kept(make, name, written), value(*written))

    def test_the_same_float_written_otherwise(self):
        for make, name, most in FLOATS:
            for more in range(22):
                with self.subTest(call=make.__name__, name=name, more=more):
                    written = (3 * 2 ** more, -4 - more)
                    self.assertEqual(once_open(make(**{name: written})), 0)
                    self.assertEqual(self.kept(make, name, written), Fraction(3, 16))


if __name__ == "__main__":
    unittest.main()
