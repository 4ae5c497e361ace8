"""The waves of a voice at the edges of its phase, and how phase and draw go on."""

import unittest
from fractions import Fraction

from tests.calls import (
    NOUGHT, ONE, each_answer, filtering, last_answer, on, opening, play, played, shape, told, told_voice, voice,
)

FALLING, UP_OR_DOWN, UP_AND_DOWN, NOISE = range(4)
TURN = 2 ** 32
HALF_TURN = 2 ** 31
ULP = Fraction(1, 2 ** 24)


def way_to(phase):
    """A step and how many samples of it lead from phase 0 to this one."""
    for samples in range(1, 100):
        for turns in range(samples):
            step, rest = divmod(phase + turns * TURN, samples)
            if rest == 0 and step <= HALF_TURN:
                return step, samples
    raise AssertionError(f"no way to {phase}")


def tone_behind(wave, width, step, samples):
    """The tone at the next sample: with cut 1 it is all that comes into an empty band, as it is."""
    calls = [voice(0, wave, width), filtering(cut=NOUGHT, damp=NOUGHT), on(0, step)]
    for part in (256,) * (samples // 256) + (samples % 256,):
        calls += [play(part)] if part else []
    before = last_answer(opening(), *calls, told())
    if before[4:] != [0, 0, 0, 0]:
        raise AssertionError("low and band are not 0")
    answer = last_answer(opening(), *calls, filtering(cut=ONE, damp=NOUGHT), play(), told())
    return before[1], told_voice(answer)[4]


def tone_at(wave, phase, width=0):
    step, samples = way_to(phase)
    reached, tone = tone_behind(wave, width, step, samples)
    if reached != phase:
        raise AssertionError(f"{reached} is not {phase}")
    return tone


class ToneTests(unittest.TestCase):
    def expect(self, wave, pairs):
        for phase, tone in pairs:
            with self.subTest(phase=phase):
                self.assertEqual(tone_at(wave, phase), tone)


class FallingWave(ToneTests):
    def test_edges(self):
        self.expect(FALLING, (
            (0, 0), (1, Fraction(1, HALF_TURN)), (2 ** 30, Fraction(1, 2)), (HALF_TURN - 1, 1), (HALF_TURN, -1),
            (HALF_TURN + 1, -1), (3 * 2 ** 30, Fraction(-1, 2)), (TURN - 2, Fraction(-2, HALF_TURN)),
            (TURN - 1, Fraction(-1, HALF_TURN)),
        ))

    def test_the_phase_is_made_a_float(self):
        self.expect(FALLING, (
            (2 ** 24 + 1, Fraction(2 ** 24, HALF_TURN)),
            (2 ** 24 + 3, Fraction(2 ** 24 + 4, HALF_TURN)),
            (TURN - 2 ** 24 - 1, Fraction(-2 ** 24, HALF_TURN)),
            (TURN - 2 ** 24 - 3, Fraction(-2 ** 24 - 4, HALF_TURN)),
            (HALF_TURN - 64, 1),
            (HALF_TURN - 65, 1 - ULP),
            (HALF_TURN - 192, 1 - 2 * ULP),
            (HALF_TURN + 64, -1),
            (HALF_TURN + 65, -1 + ULP),
        ))

    def test_heard(self):
        found = played(opening(), on(0, 2 ** 29), play(9))
        left = [0, 8192, 16384, 24576, -32768, -24576, -16384, -8192, 0]
        self.assertEqual(found, [(n, n) for n in left])


class UpOrDownWave(unittest.TestCase):
    def test_edges(self):
        for phase in (0, 1, 2 ** 30, HALF_TURN - 1, HALF_TURN, HALF_TURN + 1, TURN - 2):
            with self.subTest(phase=phase):
                self.assertEqual(tone_at(UP_OR_DOWN, phase, phase + 1), 1)
                self.assertEqual(tone_at(UP_OR_DOWN, phase, phase), -1)
                self.assertEqual(tone_at(UP_OR_DOWN, phase, TURN - 1), 1)
                self.assertEqual(tone_at(UP_OR_DOWN, phase, 0), -1)

    def test_the_last_phase_is_never_below_width(self):
        self.assertEqual(tone_at(UP_OR_DOWN, TURN - 1, TURN - 1), -1)

    def test_heard(self):
        found = played(opening(), voice(0, UP_OR_DOWN, HALF_TURN), on(0, 2 ** 30), play(5))
        self.assertEqual(found, [(n, n) for n in (32767, 32767, -32768, -32768, 32767)])


class UpAndDownWave(ToneTests):
    def test_edges(self):
        self.expect(UP_AND_DOWN, (
            (0, -1), (1, -1), (2 ** 30, 0), (HALF_TURN - 1, 1), (HALF_TURN, 1), (HALF_TURN + 1, 1),
            (3 * 2 ** 30, 0), (3 * 2 ** 29, Fraction(1, 2)), (2 ** 29, Fraction(-1, 2)), (TURN - 1, -1),
        ))

    def test_less_1_is_a_step(self):
        self.expect(UP_AND_DOWN, (
            (32, -1), (33, -1 + ULP), (95, -1 + ULP), (96, -1 + 2 * ULP), (160, -1 + 2 * ULP), (161, -1 + 3 * ULP),
            (TURN - 32, -1), (TURN - 33, -1 + ULP), (TURN - 96, -1 + 2 * ULP),
            (2 ** 30 + 1, 0), (2 ** 30 + 64, 0), (2 ** 30 + 65, Fraction(128, 2 ** 30)),
            (2 ** 30 - 1, 0), (2 ** 30 - 32, 0), (2 ** 30 - 33, Fraction(-64, 2 ** 30)),
        ))

    def test_heard(self):
        found = played(opening(), voice(0, UP_AND_DOWN), on(0, 2 ** 29), play(9))
        left = [-32768, -16384, 0, 16384, 32767, 16384, 0, -16384, -32768]
        self.assertEqual(found, [(n, n) for n in left])


class Noise(unittest.TestCase):
    # 1, then 1664525 times the one before and 1013904223, modulo 2^32.
    DRAWS = (1, 1015568748, 1586005467, 2165703038, 3027450565, 217083232, 1587069247, 3327581586)

    def test_the_draws(self):
        for samples, draw in enumerate(self.DRAWS):
            signed = draw - TURN if draw >= HALF_TURN else draw
            bits = signed.bit_length() - 24
            near = Fraction(round(Fraction(signed, 2 ** bits)) * 2 ** bits if bits > 0 else signed, HALF_TURN)
            with self.subTest(samples=samples):
                self.assertEqual(tone_behind(NOISE, 0, 7, samples), (7 * samples, near))

    def test_heard(self):
        found = played(opening(), voice(0, NOISE), on(), play(8))
        left = [round(Fraction(draw - TURN if draw >= HALF_TURN else draw, 2 ** 16)) for draw in self.DRAWS]
        self.assertEqual(found, [(n, n) for n in left])
        self.assertEqual(left, [0, 15496, 24201, -32490, -19341, 3312, 24217, -14761])

    def test_on_begins_it_anew(self):
        calls = (opening(), voice(0, NOISE), on(), play(8))
        self.assertNotEqual(played(*calls, play(8)), played(*calls))
        self.assertEqual(played(*calls, on(), play(8)), played(*calls))

    def test_it_goes_on_under_other_waves(self):
        noise = (voice(0, NOISE), on())
        all_noise = played(opening(), *noise, play(8))
        mixed = played(opening(), *noise, play(2), voice(0, FALLING), play(3), voice(0, NOISE), play(3))
        self.assertEqual(mixed, all_noise[5:])

    def test_the_voices_draw_each_for_itself(self):
        alone = played(opening(), voice(0, NOISE), on(0), play(8))
        two = (opening(), voice(0, NOISE, right=NOUGHT), voice(5, NOISE, left=NOUGHT), on(0), play(3), on(5), play(5))
        self.assertEqual(played(*two), [(alone[k + 3][0], alone[k][1]) for k in range(5)])


class Phase(unittest.TestCase):
    def phases(self, step, samples):
        calls = [told(), play()] * samples + [told()]
        return [answer[1] for answer in each_answer(opening(), on(0, step), *calls)[2::2]]

    def test_it_grows_by_step(self):
        self.assertEqual(self.phases(1000003, 4), [0, 1000003, 2000006, 3000009, 4000012])

    def test_step_0(self):
        self.assertEqual(self.phases(0, 3), [0, 0, 0, 0])

    def test_round_to_0_again(self):
        self.assertEqual(self.phases(HALF_TURN, 5), [0, HALF_TURN] * 3)

    def test_to_the_last_one_and_round(self):
        third = (TURN - 1) // 3
        self.assertEqual(self.phases(third, 4), [0, third, 2 * third, TURN - 1, third - 1])

    def test_step_is_kept_until_the_next_on(self):
        calls = (on(0, 10), play(2), voice(), filtering(), shape(), play(2), told(), on(0, 3), told(), play(), told())
        found = each_answer(opening(), *calls)
        self.assertEqual([found[place][1] for place in (7, 9, 11)], [40, 0, 3])


if __name__ == "__main__":
    unittest.main()
