"""Each step is rounded once: sums, differences, products and whole numbers made floats."""

import math
import random
import struct
import unittest
from fractions import Fraction

from tests.calls import HALF, NOUGHT, ONE, last_answer, on, opening, play, shape, told, told_voice
from voicesounds.floats import held, made_float, minus, nearest_whole, plus, times, told_float

UNITS = 2 ** 149
ULP = Fraction(1, 2 ** 24)


def units(number):
    counted = Fraction(number) * UNITS
    if counted.denominator != 1:
        raise AssertionError(f"no float: {number}")
    return counted.numerator


def double(counted):
    return math.ldexp(counted, -149)


def single(number):
    return struct.unpack("<f", struct.pack("<f", number))[0]


def any_float(source):
    z = source.choice((source.getrandbits(24), source.getrandbits(4), 2 ** 24 - source.getrandbits(3) - 1))
    e = source.choice((source.randint(0, 155), source.randint(100, 130), source.randint(0, 30)))
    return source.choice((1, -1)) * z << e


def grown(rise, more):
    """Stage and env of a voice that rises from 0 by the one and then by the other."""
    calls = (opening(), shape(rise=rise), on(), play(), shape(rise=more), play(), told())
    stage, phase, env, low, band = told_voice(last_answer(*calls))
    return stage, env


def fallen(env, fall, keep=NOUGHT):
    """Env of a voice that has come to env and falls once."""
    come = (opening(), shape(fall=NOUGHT, keep=env), on(), play(2))
    stage, phase, env, low, band = told_voice(last_answer(*come, shape(fall=fall, keep=keep), play(), told()))
    return env


def fallen_far(fall):
    """Stage, phase and env as told, of a voice that falls once from 2^-140."""
    come = (opening(), shape(fall=(1, -20), keep=NOUGHT), on(), play(8))
    if last_answer(*come, told())[2:4] != [1, -140]:
        raise AssertionError("it is not at 2^-140")
    return last_answer(*come, shape(fall=fall, keep=NOUGHT), play(), told())[:4]


class ASum(unittest.TestCase):
    def test_exact(self):
        self.assertEqual(grown(HALF, (1, -2)), (1, Fraction(3, 4)))

    def test_just_between_two_floats(self):
        self.assertEqual(grown(HALF, (33, -25))[1], Fraction(1, 2) + 16 * ULP)
        self.assertEqual(grown(HALF, (35, -25))[1], Fraction(1, 2) + 18 * ULP)

    def test_just_beside(self):
        self.assertEqual(grown(HALF, (33 * 2 ** 18 + 1, -43))[1], Fraction(1, 2) + 17 * ULP)
        self.assertEqual(grown(HALF, (33 * 2 ** 18 - 1, -43))[1], Fraction(1, 2) + 16 * ULP)
        self.assertEqual(grown(HALF, (35 * 2 ** 17 - 1, -42))[1], Fraction(1, 2) + 17 * ULP)
        self.assertEqual(grown(HALF, (35 * 2 ** 17 + 1, -42))[1], Fraction(1, 2) + 18 * ULP)

    def test_carried_into_the_next_power_of_two(self):
        below = (2 ** 18 - 1, -19)
        self.assertEqual(grown(below, (255, -27))[1], Fraction(1, 2))
        self.assertEqual(grown(below, (127, -26))[1], Fraction(1, 2))
        self.assertEqual(grown(below, (2 * 127 - 1, -27))[1], Fraction(1, 2) - ULP / 2)

    def test_it_is_compared_with_1_when_it_is_rounded(self):
        below = (2 ** 19 - 1, -19)
        self.assertEqual(grown(below, (127, -26)), (2, 1))
        self.assertEqual(grown(below, (31, -24)), (1, 1 - ULP))


# Where each step is rounded by itself and to the even one, these end as told, and else in another float.

class ADifference(unittest.TestCase):
    def test_just_between_two_floats(self):
        # 1 less 18.5 ULP is 1 less 18; 5/8 of it is 5/8 less 11, and 18.5 more is 7.5 more than 5/8: 8.
        self.assertEqual(fallen(ONE, (5, -3), (37, -25)), Fraction(5, 8) + 8 * ULP)
        # 1 less 29.5 ULP is 1 less 30; 5/8 of it is 5/8 less 19, and 29.5 more is 10.5 more than 5/8: 10.
        self.assertEqual(fallen(ONE, (5, -3), (59, -25)), Fraction(5, 8) + 10 * ULP)

    def test_below_nought(self):
        # 16.5 ULP less 1, and 1 more.
        self.assertEqual(fallen((33, -25), ONE, ONE), 16 * ULP)
        self.assertEqual(fallen((35, -25), ONE, ONE), 18 * ULP)
        self.assertEqual(fallen((33 * 2 ** 18 + 1, -43), ONE, ONE), 17 * ULP)


class AProduct(unittest.TestCase):
    def test_exact(self):
        self.assertEqual(fallen((3, -2), (5, -3)), Fraction(15, 32))

    def test_just_between_two_floats(self):
        self.assertEqual(fallen((3, -2), (2 ** 23 + 1, -24)), Fraction(12582914, 2 ** 25))
        self.assertEqual(fallen((3, -2), (2 ** 23 + 3, -24)), Fraction(12582916, 2 ** 25))

    def test_just_beside(self):
        self.assertEqual(fallen((5, -3), (2 ** 23 + 1, -24)), Fraction(10485761, 2 ** 25))
        self.assertEqual(fallen((5, -3), (2 ** 23 + 3, -24)), Fraction(10485764, 2 ** 25))

    def test_carried_into_the_next_power_of_two(self):
        self.assertEqual(31 * 1082401, 2 ** 25 - 1)
        self.assertEqual(fallen((31, -5), (1082401, -21)), Fraction(1, 2))

    def test_below_nought(self):
        # 0 less 3/4, nearly whole, and 3/4 more.
        self.assertEqual(fallen(NOUGHT, (2 ** 23 - 1, -23), (3, -2)), 2 * ULP)
        self.assertEqual(fallen(NOUGHT, (2 ** 23 - 3, -23), (3, -2)), 4 * ULP)
        self.assertEqual(fallen(NOUGHT, (2 ** 24 - 1, -24), (3, -2)), ULP)

    def test_among_the_denormals(self):
        self.assertEqual(fallen_far((1, -9)), [2, 0, 1, -149])
        self.assertEqual(fallen_far((3, -9)), [2, 0, 3, -149])
        self.assertEqual(fallen_far((5, -11)), [2, 0, 1, -149])
        self.assertEqual(fallen_far((3, -11)), [2, 0, 1, -149])

    def test_just_between_two_denormals(self):
        self.assertEqual(fallen_far((1, -10)), [2, 0, 0, 0])
        self.assertEqual(fallen_far((3, -10)), [2, 0, 1, -148])
        self.assertEqual(fallen_far((5, -10)), [2, 0, 1, -148])
        self.assertEqual(fallen_far((7, -10)), [2, 0, 1, -147])

    def test_just_beside_the_middle_of_two_denormals(self):
        self.assertEqual(fallen_far((2 ** 23 + 1, -33)), [2, 0, 1, -149])
        self.assertEqual(fallen_far((2 ** 24 - 1, -34)), [2, 0, 0, 0])

    def test_below_the_denormals(self):
        self.assertEqual(fallen_far((1, -11)), [2, 0, 0, 0])
        self.assertEqual(fallen_far((1, -20)), [2, 0, 0, 0])


class TheStepsThemselves(unittest.TestCase):
    def test_denormals_below_nought(self):
        for sign in (1, -1):
            for factor, counted in ((1, 0), (2, 1), (3, 2), (4, 2), (5, 2), (6, 3), (7, 4), (9, 4)):
                with self.subTest(sign=sign, factor=factor):
                    self.assertEqual(times(sign * factor, UNITS // 2), sign * counted)

    def test_sums_below_nought(self):
        for sign in (1, -1):
            base = sign * units(Fraction(1, 2))
            self.assertEqual(plus(base, sign * units(ULP / 2)), base)
            self.assertEqual(plus(base, sign * units(3 * ULP / 2)), base + sign * units(2 * ULP))
            self.assertEqual(plus(base, sign * (units(ULP / 2) + 1)), base + sign * units(ULP))
            self.assertEqual(minus(base, -sign * units(3 * ULP / 2)), base + sign * units(2 * ULP))

    def test_where_the_spacing_halves(self):
        one = units(1)
        self.assertEqual(minus(one, units(ULP / 2)), one)
        self.assertEqual(minus(one, units(ULP / 2) + 1), one - units(ULP))
        self.assertEqual(minus(one, units(3 * ULP / 2)), one - units(2 * ULP))
        self.assertEqual(plus(one, units(ULP)), one)
        self.assertEqual(plus(one, units(ULP) + 1), one + units(2 * ULP))

    def test_denormal_sums_are_exact(self):
        for a, b in ((1, 1), (2 ** 23 - 1, 1), (2 ** 23, 2 ** 23 - 1), (-1, 1), (5, -7)):
            self.assertEqual(plus(a, b), a + b)
            self.assertEqual(minus(a, b), a - b)
        self.assertEqual(plus(2 ** 24 - 1, 2), 2 ** 24)
        self.assertEqual(plus(2 ** 24 - 1, 4), 2 ** 24 + 4)

    def test_whole_numbers(self):
        pairs = (
            (0, 0), (1, 1), (2 ** 24, 2 ** 24), (2 ** 24 + 1, 2 ** 24), (2 ** 24 + 2, 2 ** 24 + 2),
            (2 ** 24 + 3, 2 ** 24 + 4), (2 ** 31 - 1, 2 ** 31), (2 ** 31 - 64, 2 ** 31), (2 ** 31 - 65, 2 ** 31 - 128),
            (2 ** 31 - 192, 2 ** 31 - 256),
        )
        for whole, expected in pairs:
            self.assertEqual(made_float(whole), expected * UNITS)
            self.assertEqual(made_float(-whole), -expected * UNITS)

    def test_the_nearest_whole_number(self):
        pairs = ((0, 0), (1, 0), (2, 0), (3, 1), (4, 1), (5, 1), (6, 2), (7, 2), (9, 2), (10, 2), (11, 3))
        for quarters, expected in pairs:
            self.assertEqual(nearest_whole(quarters, 2), expected)
            self.assertEqual(nearest_whole(-quarters, 2), -expected)

    def test_held(self):
        most = 16 * UNITS
        for number in (0, 1, -1, most - 1, most, -most, 1 - most):
            self.assertEqual(held(number), number)
        self.assertEqual(held(most + 1), most)
        self.assertEqual(held(-most - 1), -most)

    def test_told(self):
        self.assertEqual(told_float(0), [0, 0])
        self.assertEqual(told_float(1), [1, -149])
        self.assertEqual(told_float(-6), [-3, -148])
        self.assertEqual(told_float(16 * UNITS), [1, 4])
        self.assertEqual(told_float(-(2 ** 24 - 1)), [1 - 2 ** 24, -149])

    def test_many_as_the_machine_does_them(self):
        source = random.Random(20)
        for turn in range(20000):
            a, b = any_float(source), any_float(source)
            self.assertEqual(double(plus(a, b)), single(double(a) + double(b)), (a, b))
            self.assertEqual(double(minus(a, b)), single(double(a) - double(b)), (a, b))
            self.assertEqual(double(times(a, b)), single(double(a) * double(b)), (a, b))

    def test_many_wholes_as_the_machine_does_them(self):
        source = random.Random(21)
        for turn in range(5000):
            whole = source.getrandbits(source.randint(1, 32)) - 2 ** 31
            self.assertEqual(double(made_float(whole)), single(float(whole)), whole)


if __name__ == "__main__":
    unittest.main()
