"""Samples of 16 bits: how what's heard is told, and rows of them blended and measured."""

import unittest
from fractions import Fraction

from tests.calls import (
    HALF, NOUGHT, ONE, blend, each_answer, filtering, last_answer, measure, on, opening, play, played, voice,
)
from voicesounds.samples import blended, in_16_bits, within_16_bits

QUARTER = (1, -2)
UNITS = 2 ** 149


def constant(k, number):
    """A voice that is this number on both sides: a fraction from -1 to 1 that may be handed in."""
    size = abs(Fraction(number))
    written = (size.numerator, 1 - size.denominator.bit_length())
    return voice(k, 1, 2 ** 32 - 1 if number > 0 else 0, left=written, right=written) + on(k)


def told_of(*numbers):
    """What is told of voices with these numbers, put together."""
    calls = [constant(k, number) for k, number in enumerate(numbers)]
    (left, right), = played(opening(), *calls, play())
    if left != right:
        raise AssertionError(f"{left} is not {right}")
    return left


class InSixteenBits(unittest.TestCase):
    def expect(self, pairs):
        for number, told in pairs:
            with self.subTest(number=number):
                self.assertEqual(told_of(Fraction(number) / 32768), told)

    def test_whole_ones(self):
        self.expect(((1, 1), (-1, -1), (2, 2), (12345, 12345), (-12345, -12345), (32767, 32767), (-32767, -32767)))

    def test_the_nearest(self):
        little = Fraction(1, 2 ** 10)
        self.expect(((7 + little, 7), (7 - little, 7), (-7 + little, -7), (-7 - little, -7)))
        half = Fraction(1, 2)
        self.expect(((7 + half - little, 7), (7 + half + little, 8), (8 + half - little, 8), (8 + half + little, 9)))
        self.expect((
            (-7 - half + little, -7), (-7 - half - little, -8), (-8 - half + little, -8), (-8 - half - little, -9),
        ))

    def test_of_two_as_near_the_even_one(self):
        halves = {1: 0, 3: 2, 5: 2, 7: 4, 9: 4, 20001: 10000, 20003: 10002, 65531: 32766, 65533: 32766}
        self.expect([(Fraction(odd, 2), whole) for odd, whole in halves.items()])
        self.expect([(Fraction(-odd, 2), -whole) for odd, whole in halves.items()])

    def test_both_ends_held(self):
        self.expect(((Fraction(65535, 2), 32767), (32768, 32767)))
        self.expect(((Fraction(-65535, 2), -32768), (-32768, -32768)))
        self.assertEqual(told_of(1, 1), 32767)
        self.assertEqual(told_of(-1, -1), -32768)
        self.assertEqual(told_of(-1, Fraction(-1, 32768)), -32768)
        self.assertEqual(told_of(*[1] * 8), 32767)
        self.assertEqual(told_of(*[-1] * 8), -32768)

    def test_of_floats_themselves(self):
        self.assertEqual(in_16_bits(0), 0)
        self.assertEqual(in_16_bits(1), 0)
        self.assertEqual(in_16_bits(-1), 0)
        self.assertEqual(in_16_bits(144 * UNITS), 32767)
        self.assertEqual(in_16_bits(-144 * UNITS), -32768)
        self.assertEqual(in_16_bits(-UNITS - UNITS // 2 ** 16), -32768)
        self.assertEqual(in_16_bits(UNITS - UNITS // 2 ** 15), 32767)


class SeveralVoices(unittest.TestCase):
    def test_they_are_put_together(self):
        self.assertEqual(told_of(Fraction(1, 2), Fraction(1, 8), Fraction(-1, 4)), 12288)
        self.assertEqual(told_of(*[Fraction(1, 16)] * 8), 16384)

    def test_only_what_is_put_together_is_held(self):
        self.assertEqual(told_of(1, 1, -1, Fraction(-1, 2)), 16384)
        self.assertEqual(told_of(-1, -1, 1, Fraction(1, 2)), -16384)

    def test_both_sides_each_by_its_own(self):
        calls = (
            voice(0, 1, 2 ** 32 - 1, HALF, ONE, HALF), voice(3, 1, 0, ONE, QUARTER, NOUGHT),
            voice(7, 1, 1, ONE, NOUGHT, (1, -4)), on(0), on(3), on(7),
        )
        self.assertEqual(played(opening(), *calls, play()), [(8192, 10240)])

    def test_left_and_right_by_turns(self):
        calls = (opening(), voice(0, 1, 2 ** 31, ONE, HALF, QUARTER), on(0, 2 ** 31))
        self.assertEqual(last_answer(*calls, play(3)), [3, 16384, 8192, -16384, -8192, 16384, 8192])

    def test_half_units_add_up_before_they_are_made_whole(self):
        little = Fraction(1, 2 ** 17)
        self.assertEqual([told_of(*[little] * count) for count in (1, 2, 3, 4, 6, 8)], [0, 0, 1, 1, 2, 2])

    def among_great_ones(self, place):
        """9 2^-19 as the voice at this place, six others beside it: three that are 16 and then three that are -16."""
        others = [k for k in range(7) if k != place]
        swings = [voice(k, 1, 2 ** 31) + filtering(k, 2, ONE, NOUGHT) + on(k, 715827883) for k in others]
        # Swung so, band is 16 in the 25th sample and -16 in the 29th; with cut 0 it stays.
        stays = [filtering(k, 2, NOUGHT, NOUGHT) for k in others]
        little = constant(place, Fraction(9, 2 ** 19))
        return played(opening(), *swings, play(25), *stays[:3], play(4), *stays[3:], little, play())

    def test_each_sum_is_rounded_in_the_order_of_the_voices(self):
        # A sum from 32 on has no bit below 2^-18, so of 9 2^-19, between two there, 2^-16 is left: half a sample, 0.
        # By itself, or where the sum has gone back to 16 or less, it is more than half a sample, 1.
        told = [self.among_great_ones(place) for place in range(7)]
        self.assertEqual(told, [[(0, 0)]] * 5 + [[(1, 1)]] * 2)
        self.assertEqual(told_of(Fraction(9, 2 ** 19)), 1)


class Blend(unittest.TestCase):
    def blended(self, g, a, b):
        count, *samples = last_answer(opening(), blend(len(a), g, a, b))
        self.assertEqual(count, len(a))
        return samples

    def test_ordinary(self):
        self.assertEqual(last_answer(opening(), [11, 8, 3, 8192, 100, -200, 300, 1000, 2000, -3000, 0]),
                         [3, 325, 350, -525])

    def test_none(self):
        self.assertEqual(each_answer(opening(), blend(0, 5)), [[0], [0]])
        self.assertEqual(each_answer(opening(), blend(0, 0), blend(0, 32767)), [[0]] * 3)

    def test_g_0_is_a_nearly(self):
        self.assertEqual(self.blended(0, [1, -1, 100, 16384, 16385, -16384, -16385, 32767, -32768], [30000] * 9),
                         [1, -1, 100, 16384, 16384, -16383, -16384, 32766, -32767])

    def test_g_32767_is_b_nearly(self):
        self.assertEqual(self.blended(32767, [30000] * 9, [1, -1, 100, 16384, 16385, -16384, -16385, 32767, -32768]),
                         [1, -1, 100, 16384, 16384, -16383, -16384, 32766, -32767])

    def test_r_at_its_edges(self):
        # a (32767 - g), with b 0: 16383, 16384, 16385 and below 0.
        self.assertEqual([self.blended(g, [1, -1], [0, 0]) for g in (16384, 16383, 16382)], [[0, 0], [1, 0], [1, -1]])
        # b g, with a 0.
        self.assertEqual([self.blended(g, [0, 0], [1, -1]) for g in (16383, 16384, 16385)], [[0, 0], [1, 0], [1, -1]])
        # 3 * 16384 is 49152, which is 1.5.
        self.assertEqual(self.blended(16384, [0] * 4, [3, -3, 5, -5]), [2, -1, 3, -2])
        self.assertEqual(self.blended(16383, [3, -3, 5, -5], [0] * 4), [2, -1, 3, -2])

    def test_each_part_is_rounded_by_itself(self):
        self.assertEqual(self.blended(16383, [1, 1, -1], [1, 2, -2]), [1, 2, -1])

    def test_the_greatest_and_the_least(self):
        self.assertEqual(self.blended(16383, [32767], [32767]), [32767])
        self.assertEqual(self.blended(0, [-32768], [-32768]), [-32767])
        self.assertEqual(self.blended(16384, [-32768], [-32768]), [-32767])

    def test_both_ends_held(self):
        # No samples of 16 bits lead beyond 16 bits here, so this takes others.
        self.assertEqual(blended([32769, 40000, -32769, -40000], [0] * 4, 0), [32767, 32767, -32768, -32768])
        self.assertEqual(blended([40000, -40000], [32767, -32768], 16384), [32767, -32768])
        self.assertEqual([within_16_bits(n) for n in (-32769, -32768, 32767, 32768)], [-32768, -32768, 32767, 32767])

    def test_as_long_as_may_be(self):
        a = [k * 128 - 32768 for k in range(512)]
        b = [32767 - k * 127 for k in range(512)]
        for g in (0, 1, 12345, 16383, 16384, 32766, 32767):
            expected = [(x * (32767 - g) + 16384 >> 15) + (y * g + 16384 >> 15) for x, y in zip(a, b)]
            self.assertEqual(self.blended(g, a, b), expected)

    def test_it_leaves_the_voices(self):
        sounds = (opening(), voice(0, 1, 9), on(0, 3), play(2))
        self.assertEqual(played(*sounds, blend(1, 5, [7], [8]), measure(1, [7]), play(2)), played(*sounds, play(2)))


class Measure(unittest.TestCase):
    def measured(self, *samples):
        done, *told = last_answer(opening(), measure(len(samples), samples))
        self.assertEqual(done, 0)
        return told

    def test_ordinary(self):
        self.assertEqual(last_answer(opening(), [12, 6, 5, 3, -4, 0, -5, 2, 0]), [0, 54, 5, 2])

    def test_none(self):
        self.assertEqual(last_answer(opening(), [12, 1, 0, 0]), [0, 0, 0, 0])

    def test_one(self):
        self.assertEqual(self.measured(0), [0, 0, 0])
        self.assertEqual(self.measured(7), [49, 7, 0])
        self.assertEqual(self.measured(-7), [49, 7, 0])

    def test_the_greatest_size(self):
        self.assertEqual(self.measured(-32768), [2 ** 30, 32768, 0])
        self.assertEqual(self.measured(32767, -32768)[1], 32768)
        self.assertEqual(self.measured(32767, -32767)[1], 32767)
        self.assertEqual(self.measured(5, -9, 8)[1], 9)
        self.assertEqual(self.measured(5, 9, -8)[1], 9)

    def test_one_below_0_followed_by_one_that_is_not(self):
        rows = (
            ((-1, 0), 1), ((-1, 1), 1), ((0, -1), 0), ((1, -1), 0), ((0, 0), 0), ((-1, -1), 0), ((0, 1), 0),
            ((-1, 0, 1), 1), ((-1, 0, -1, 0), 2), ((-1, -1, 1, 1), 1), ((1, -1, 1, -1, 1), 2), ((0, -1, -1, 0, -1), 1),
            ((-32768, 32767, -32768, 32767), 2), ((5, 0, -3), 0), ((-3, -2, -1), 0),
        )
        for samples, count in rows:
            with self.subTest(samples=samples):
                self.assertEqual(self.measured(*samples)[2], count)

    def test_as_long_as_may_be(self):
        self.assertEqual(self.measured(*[-32768] * 512), [512 * 2 ** 30, 32768, 0])
        self.assertEqual(self.measured(*[-1, 1] * 256), [512, 1, 256])
        self.assertEqual(self.measured(*range(-256, 256)), [sum(n * n for n in range(-256, 256)), 256, 1])


if __name__ == "__main__":
    unittest.main()
