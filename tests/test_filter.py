"""The filter of a voice: what comes out by each mode, its memory, and how it is held."""

import unittest
from fractions import Fraction

from tests.calls import (
    HALF, NOUGHT, ONE, each_answer, filtering, last_answer, on, opening, play, played, told, told_voice, voice,
)

SIXTH_OF_A_TURN = 715827883


def up(k=0, level=ONE):
    """A voice whose tone is 1."""
    return voice(k, 1, 2 ** 32 - 1, level=level)


def memory(*calls):
    stage, phase, env, low, band = told_voice(last_answer(opening(), *calls, told()))
    return low, band


class Modes(unittest.TestCase):
    def heard(self, mode):
        calls = (up(level=HALF), filtering(mode=mode, cut=HALF, damp=HALF), on(), play(3))
        return [left for left, right in played(opening(), *calls)]

    # Tone 1: low 0 1/4 5/8, h 1 1/2 0, band 1/2 3/4 3/4; half of each is heard.
    def test_0_is_the_tone(self):
        self.assertEqual(self.heard(0), [16384, 16384, 16384])

    def test_1_is_low(self):
        self.assertEqual(self.heard(1), [0, 4096, 10240])

    def test_2_is_the_new_band(self):
        self.assertEqual(self.heard(2), [8192, 12288, 12288])

    def test_3_is_h(self):
        self.assertEqual(self.heard(3), [16384, 8192, 0])

    def test_the_memory_goes_on_in_every_mode(self):
        for mode in range(4):
            calls = (up(), filtering(mode=mode, cut=HALF, damp=HALF), on())
            found = [memory(*calls, play(n)) for n in (1, 2, 3)]
            expected = [(0, Fraction(1, 2)), (Fraction(1, 4), Fraction(3, 4)), (Fraction(5, 8), Fraction(3, 4))]
            self.assertEqual(found, expected)

    def test_at_first_the_tone_comes_out_and_nothing_is_kept(self):
        self.assertEqual(memory(up(), on(), play(5)), (0, 0))
        self.assertEqual(played(opening(), up(level=HALF), on(), play(2)), [(16384, 16384)] * 2)


class CutAndDamp(unittest.TestCase):
    def test_cut_0_keeps_the_memory_as_it_is(self):
        calls = (up(), filtering(cut=HALF, damp=HALF), on(), play(3), filtering(cut=NOUGHT, damp=HALF), play(9))
        self.assertEqual(memory(*calls), (Fraction(5, 8), Fraction(3, 4)))

    def test_cut_0_and_h(self):
        # h is 1 less 5/8, less half of 3/4: 0 at damp 1/2; 3/8 at damp 0.
        calls = (up(), filtering(cut=HALF, damp=HALF), on(), play(3))
        for damp, heard in ((HALF, 0), (NOUGHT, 12288), (ONE, -12288), ((2, 0), -32768)):
            with self.subTest(damp=damp):
                found = played(opening(), *calls, filtering(mode=3, cut=NOUGHT, damp=damp), play())
                self.assertEqual(found, [(heard, heard)])

    def test_the_least_cut(self):
        calls = (up(), filtering(cut=(1, -20), damp=NOUGHT), on())
        self.assertEqual(memory(*calls, play(1)), (0, Fraction(1, 2 ** 20)))
        self.assertEqual(memory(*calls, play(2))[0], Fraction(1, 2 ** 40))

    def test_each_voice_has_its_own(self):
        calls = (up(0), up(1), filtering(0, 0, HALF, HALF), filtering(1, 0, ONE, NOUGHT), on(0), on(1), play(2))
        found = each_answer(opening(), *calls, told(0), told(1), told(2))[-3:]
        self.assertEqual([told_voice(answer)[3:] for answer in found],
                         [(Fraction(1, 4), Fraction(3, 4)), (1, 1), (0, 0)])

    def test_a_new_filter_leaves_the_memory(self):
        calls = (up(), filtering(cut=HALF, damp=HALF), on(), play(2))
        self.assertEqual(memory(*calls, filtering(3, 1, ONE, ONE), filtering(0, 2, ONE, ONE)), memory(*calls))


class Order(unittest.TestCase):
    def test_the_old_band_goes_into_low(self):
        self.assertEqual(memory(up(), filtering(cut=ONE, damp=NOUGHT), on(), play(1)), (0, 1))

    def test_the_new_low_goes_into_h(self):
        # low 0, band 1; then low 1, h 0: band stays 1. With the old low h would be 1, and band 2.
        self.assertEqual(memory(up(), filtering(cut=ONE, damp=NOUGHT), on(), play(2)), (1, 1))

    def test_the_old_band_goes_into_h(self):
        self.assertEqual(memory(up(), filtering(cut=ONE, damp=ONE), on(), play(2)), (1, 0))


class Held(unittest.TestCase):
    def swung(self, samples):
        """Low, h and band in whole numbers, with cut 1, damp 0 and a tone that turns each third sample."""
        low = band = 0
        found = []
        for sample in range(samples):
            tone = 1 if sample % 6 < 3 else -1
            low = min(16, max(-16, low + band))
            h = min(16, max(-16, tone - low))
            band = min(16, max(-16, band + h))
            found.append((low, h, band))
        return found

    def calls(self, samples, mode=0):
        return (voice(0, 1, 2 ** 31, level=(1, -5)), filtering(0, mode, ONE, NOUGHT), on(0, SIXTH_OF_A_TURN),
                play(samples))

    def test_low_and_band(self):
        for samples, (low, h, band) in enumerate(self.swung(60), start=1):
            with self.subTest(samples=samples):
                self.assertEqual(memory(*self.calls(samples)), (low, band))

    def test_what_comes_out(self):
        swung = self.swung(60)
        for mode, place in ((1, 0), (2, 2), (3, 1)):
            expected = [1024 * numbers[place] for numbers in swung]
            found = [left for left, right in played(opening(), *self.calls(60, mode))]
            self.assertEqual(found, expected)
            self.assertIn(16384, found)
            self.assertIn(-16384, found)

    def test_the_first_times(self):
        # One by one up to where each is held: band and h at 17, then low at 17 and both again at -17.
        self.assertEqual(self.swung(30)[24:30],
                         [(-16, 16, 16), (0, 1, 16), (16, -15, 1), (16, -16, -15), (1, -2, -16), (-15, 14, -2)])
        self.assertEqual([memory(*self.calls(n)) for n in range(25, 31)],
                         [(-16, 16), (0, 16), (16, 1), (16, -15), (1, -16), (-15, -2)])

    def test_h_with_damp_2(self):
        calls = (up(level=(1, -5)), filtering(0, 3, ONE, (1, 1)), on(), play(9))
        expected = [1, -2, 3, -5, 8, -13, 16, -16, 16]
        self.assertEqual([left for left, right in played(opening(), *calls)], [1024 * h for h in expected])


if __name__ == "__main__":
    unittest.main()
