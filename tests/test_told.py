"""What is told of a voice, number by number."""

import unittest

from tests.calls import (
    FAR, HALF, NOUGHT, ONE, each_answer, filtering, last_answer, off, on, opening, play, shape, told, voice,
)

AT_FIRST = [0, 0, 0, 0, 0, 0, 0, 0]


class Told(unittest.TestCase):
    def test_at_first(self):
        for k in range(8):
            self.assertEqual(last_answer(opening(), told(k)), AT_FIRST)

    def test_stage_phase_env_low_band(self):
        calls = (voice(4, 1, 9), filtering(4, 0, HALF, NOUGHT), shape(4, rise=(3, -3)), on(4, 7), play(2))
        self.assertEqual(last_answer(opening(), *calls, told(4)), [1, 14, 3, -2, 1, -2, 7, -3])

    def test_every_stage(self):
        calls = (shape(1, go=HALF), on(1, 3), told(1), play(), told(1), off(1), told(1), play(), told(1))
        found = each_answer(opening(), *calls, shape(1, go=NOUGHT), play(), told(1))
        self.assertEqual([found[place] for place in (3, 5, 7, 9, 12)], [
            [1, 0, 0, 0, 0, 0, 0, 0],
            [2, 3, 1, 0, 0, 0, 0, 0],
            [3, 3, 1, 0, 0, 0, 0, 0],
            [3, 6, 1, -1, 0, 0, 0, 0],
            [0, 9, 0, 0, 0, 0, 0, 0],
        ])

    def test_floats_below_0(self):
        # Tone -1: low 0, h -1, band -3/4; then low -9/16, h -7/16, band -69/64.
        calls = (voice(0, 1, 0), filtering(0, 0, (3, -2), NOUGHT), on(), play())
        self.assertEqual(last_answer(opening(), *calls, told()), [2, 0, 1, 0, 0, 0, -3, -2])
        self.assertEqual(last_answer(opening(), *calls, play(), told()), [2, 0, 1, 0, -9, -4, -69, -6])

    def test_z_is_odd_also_of_whole_numbers(self):
        # Cut 1, damp 2, tone 1: band 1 -1 2 -3 5 -8 8, low 0 1 0 2 -1 4 -4.
        calls = (voice(0, 1, 9), filtering(0, 0, ONE, (1, 1)), on())
        found = [last_answer(opening(), *calls, play(n), told())[4:] for n in range(1, 8)]
        self.assertEqual(found, [
            [0, 0, 1, 0], [1, 0, -1, 0], [0, 0, 1, 1], [1, 1, -3, 0], [-1, 0, 5, 0], [1, 2, -1, 3], [-1, 2, 1, 3],
        ])

    def test_all_24_bits(self):
        calls = (shape(rise=(2 ** 24 - 1, -24)), on(), play(), told())
        self.assertEqual(last_answer(opening(), *calls)[:4], [1, 0, 2 ** 24 - 1, -24])
        calls = (shape(rise=(2 ** 24 - 2, -24)), on(), play(), told())
        self.assertEqual(last_answer(opening(), *calls)[:4], [1, 0, 2 ** 23 - 1, -23])

    def test_the_smallest_float(self):
        calls = (shape(fall=(1, -20), keep=NOUGHT), on(), play(8), shape(fall=(1, -9), keep=NOUGHT), play(), told())
        self.assertEqual(last_answer(opening(), *calls)[2:4], [1, -149])

    def test_each_voice_its_own(self):
        calls = [on(k, k + 1) for k in range(0, 8, 2)]
        found = each_answer(opening(), *calls, play(3), *[told(k) for k in range(8)])[-8:]
        self.assertEqual(found, [AT_FIRST if k % 2 else [2, 3 * (k + 1), 1, 0, 0, 0, 0, 0] for k in range(8)])

    def test_telling_changes_nothing(self):
        calls = (voice(0, 3, 9), filtering(0, 1, HALF, HALF), on(0, 77), play(5))
        untold = last_answer(opening(), *calls, play(5))
        self.assertEqual(last_answer(opening(), *calls, *[told()] * 20, play(5)), untold)

    def test_no_such_voice(self):
        for k in (-1, 8, FAR, -FAR, 2 ** 32):
            self.assertEqual(each_answer(opening(), on(), told(k), told())[2:], [[-2], [1, 0, 0, 0, 0, 0, 0, 0]])

    def test_what_the_calls_set_leaves_the_rest(self):
        calls = (voice(0, 1, 9), filtering(0, 2, HALF, HALF), shape(0, rise=HALF), on(0, 3), play())
        before = last_answer(opening(), *calls, told())
        self.assertEqual(before, [1, 3, 1, -1, 0, 0, 1, -1])
        for more in (voice(0, 2, 5, HALF, HALF, HALF), filtering(0, 3, ONE, ONE), shape(0)):
            self.assertEqual(last_answer(opening(), *calls, more, told()), before)

    def test_open_begins_anew(self):
        calls = (voice(0, 1, 9), filtering(0, 2, HALF, HALF), on(0, 3), play())
        self.assertEqual(last_answer(opening(), *calls, opening(), told()), AT_FIRST)
        # The filter and the shape as at first too: the tone of wave 0 comes out whole.
        self.assertEqual(last_answer(opening(), *calls, opening(), on(0, 2 ** 30), play(2)), [2, 0, 0, 16384, 16384])


if __name__ == "__main__":
    unittest.main()
