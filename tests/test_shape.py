"""The shape of a voice, sample by sample: rising, falling, let go, and what on and off make of it."""

import unittest
from fractions import Fraction

from tests.calls import (
    HALF, NOUGHT, ONE, each_answer, filtering, off, on, opening, play, played, shape, sounding, told, told_voice, voice,
)

QUARTER = (1, -2)
THREE_QUARTERS = (3, -2)
LEAST = (1, -20)
JUST_BELOW_ONE = (2 ** 24 - 1, -24)
BELOW_ONE = 1 - Fraction(1, 2 ** 24)


def stages(*calls):
    """Stage and env wherever a told stands among the calls, an open ahead of them."""
    found = []
    for one, answer in zip(calls, each_answer(opening(), *calls)[1:]):
        if one[0] == 9:
            stage, phase, env, low, band = told_voice(answer)
            found.append((stage, env))
    return found


def sampled(*calls, samples):
    """Stage and env behind each of so many samples."""
    return stages(*calls, *[play(), told()] * samples)


# A voice that has risen to 1 in its first sample and is falling now.
RISEN = (shape(), on(), play())


class Rising(unittest.TestCase):
    def test_step_by_step(self):
        found = sampled(shape(rise=QUARTER, keep=ONE), on(), samples=5)
        self.assertEqual(found, [(1, Fraction(k, 4)) for k in (1, 2, 3)] + [(2, 1), (2, 1)])

    def test_as_at_first(self):
        self.assertEqual(sampled(on(), samples=2), [(2, 1), (2, 1)])

    def test_to_just_below_1(self):
        found = sampled(shape(rise=JUST_BELOW_ONE), on(), samples=2)
        self.assertEqual(found, [(1, BELOW_ONE), (2, 1)])

    def test_to_1_itself(self):
        self.assertEqual(sampled(shape(rise=ONE), on(), samples=1), [(2, 1)])
        self.assertEqual(sampled(shape(rise=HALF), on(), samples=2), [(1, Fraction(1, 2)), (2, 1)])

    def test_beyond_1(self):
        self.assertEqual(sampled(shape(rise=THREE_QUARTERS), on(), samples=2), [(1, Fraction(3, 4)), (2, 1)])

    def test_by_nought_it_rises_for_ever(self):
        self.assertEqual(sampled(shape(rise=NOUGHT), on(), samples=3), [(1, 0)] * 3)

    def test_by_the_least(self):
        found = sampled(shape(rise=LEAST), on(), samples=3)
        self.assertEqual(found, [(1, Fraction(k, 2 ** 20)) for k in (1, 2, 3)])

    def test_it_does_not_fall_in_the_sample_in_which_it_comes_to_1(self):
        found = sampled(shape(rise=ONE, fall=NOUGHT, keep=QUARTER), on(), samples=2)
        self.assertEqual(found, [(2, 1), (2, Fraction(1, 4))])


class Falling(unittest.TestCase):
    def test_from_above(self):
        found = sampled(*RISEN, shape(fall=HALF, keep=HALF), samples=3)
        self.assertEqual(found, [(2, Fraction(3, 4)), (2, Fraction(5, 8)), (2, Fraction(9, 16))])

    def test_from_below(self):
        down = (shape(fall=NOUGHT, keep=HALF), play())
        found = sampled(*RISEN, *down, shape(fall=HALF, keep=ONE), samples=3)
        self.assertEqual(found, [(2, Fraction(3, 4)), (2, Fraction(7, 8)), (2, Fraction(15, 16))])

    def test_at_what_is_kept(self):
        found = sampled(*RISEN, shape(fall=HALF, keep=ONE), samples=3)
        self.assertEqual(found, [(2, 1)] * 3)

    def test_fall_0_is_there_at_once(self):
        self.assertEqual(sampled(*RISEN, shape(fall=NOUGHT, keep=QUARTER), samples=2), [(2, Fraction(1, 4))] * 2)

    def test_fall_1_stays(self):
        self.assertEqual(sampled(*RISEN, shape(fall=ONE, keep=QUARTER), samples=2), [(2, 1)] * 2)

    def test_to_nought_it_goes_on_falling(self):
        found = sampled(*RISEN, shape(fall=LEAST, keep=NOUGHT), samples=9)
        self.assertEqual(found[:7], [(2, Fraction(1, 2 ** (20 * k))) for k in range(1, 8)])
        self.assertEqual(found[7:], [(2, 0), (2, 0)])


class LetGo(unittest.TestCase):
    def test_step_by_step(self):
        found = sampled(*RISEN, shape(go=HALF), off(), samples=3)
        self.assertEqual(found, [(3, Fraction(1, 2)), (3, Fraction(1, 4)), (3, Fraction(1, 8))])

    def test_to_2_to_the_minus_20_itself(self):
        found = sampled(*RISEN, shape(go=LEAST), off(), samples=2)
        self.assertEqual(found, [(3, Fraction(1, 2 ** 20)), (0, 0)])

    def test_to_just_below_it(self):
        below = (shape(rise=JUST_BELOW_ONE, go=LEAST), on(), play(), told(), off(), told(), play(), told())
        self.assertEqual(stages(*below), [(1, BELOW_ONE), (3, BELOW_ONE), (0, 0)])

    def test_twenty_halves(self):
        found = stages(*RISEN, shape(go=HALF), off(), play(20), told(), play(), told())
        self.assertEqual(found, [(3, Fraction(1, 2 ** 20)), (0, 0)])

    def test_go_0_ends_at_once(self):
        self.assertEqual(sampled(*RISEN, shape(go=NOUGHT), off(), samples=2), [(0, 0)] * 2)

    def test_go_1_never_ends(self):
        found = stages(*RISEN, shape(go=ONE), off(), play(256), told(), play(256), told())
        self.assertEqual(found, [(3, 1)] * 2)

    def test_go_at_first_is_0(self):
        self.assertEqual(sampled(on(), play(), off(), samples=1), [(0, 0)])


class TheLastSample(unittest.TestCase):
    def test_it_is_still_done(self):
        # Cut and damp 1, tone 1: low 0, h 1, band 1; then low 1, h -1, band 0; then it's still.
        calls = (voice(wave=1, width=2 ** 31), filtering(cut=ONE, damp=ONE), shape(go=NOUGHT), on(step=5))
        found = each_answer(opening(), *calls, play(), told(), off(), play(2), told(), play(9), told())
        self.assertEqual(found[6], [2, 5, 1, 0, 0, 0, 1, 0])
        self.assertEqual(found[8], [2, 0, 0, 0, 0])
        self.assertEqual(found[9], [0, 10, 0, 0, 1, 0, 0, 0])
        self.assertEqual(found[10], [9] + [0] * 18)
        self.assertEqual(found[11], found[9])

    def test_a_still_voice_is_0_and_nothing_changes(self):
        for calls in ((), (voice(wave=1, width=9), filtering(cut=ONE), shape(keep=HALF)), (off(),)):
            found = each_answer(opening(), *calls, told(), play(3), told())
            self.assertEqual(found[-3], [0, 0, 0, 0, 0, 0, 0, 0])
            self.assertEqual(found[-2], [3, 0, 0, 0, 0, 0, 0])
            self.assertEqual(found[-1], found[-3])

    def test_what_is_played_while_it_is_still_does_not_count(self):
        noise = (voice(wave=3), on(step=3), play(20))
        self.assertEqual(played(opening(), *noise), played(opening(), play(7), *noise))


class OnAndOff(unittest.TestCase):
    def test_on_while_it_sounds_keeps_env(self):
        for before in ((), (off(),)):
            down = (shape(fall=NOUGHT, keep=QUARTER, go=ONE, rise=QUARTER), play(), *before, told())
            found = stages(*RISEN, *down, on(), told(), play(), told(), play(2), told())
            self.assertEqual(found[0], (3 if before else 2, Fraction(1, 4)))
            self.assertEqual(found[1:], [(1, Fraction(1, 4)), (1, Fraction(1, 2)), (2, 1)])

    def test_on_while_it_sounds_begins_all_else_anew(self):
        calls = (voice(wave=1, width=9), filtering(cut=ONE, damp=ONE), shape(rise=QUARTER), on(step=4), play(3))
        found = each_answer(opening(), *calls, told(), on(step=6), told(), play(), told())
        # The tone is 1 at the phases 0, 4 and 8: low 0 1 1, h 1 -1 0, band 1 0 0.
        self.assertEqual(found[-5], [1, 12, 3, -2, 1, 0, 0, 0])
        self.assertEqual(found[-3], [1, 0, 3, -2, 0, 0, 0, 0])
        self.assertEqual(found[-1], [2, 6, 1, 0, 0, 0, 1, 0])

    def test_on_while_it_rises(self):
        found = stages(shape(rise=QUARTER), on(), play(2), told(), on(), told(), play(), told())
        self.assertEqual(found, [(1, Fraction(1, 2)), (1, Fraction(1, 2)), (1, Fraction(3, 4))])

    def test_on_when_it_has_gone_still(self):
        found = stages(*RISEN, shape(rise=QUARTER, go=NOUGHT), off(), play(), told(), on(), told(), play(), told())
        self.assertEqual(found, [(0, 0), (1, 0), (1, Fraction(1, 4))])

    def test_off_while_it_is_still(self):
        self.assertEqual(stages(off(), told(), play(), told()), [(0, 0)] * 2)
        gone = (*RISEN, shape(go=NOUGHT), off(), play(), told(), off(), told(), play(), told())
        self.assertEqual(stages(*gone), [(0, 0)] * 3)

    def test_off_while_it_rises(self):
        found = stages(shape(rise=QUARTER, go=HALF), on(), play(3), off(), told(), play(), told())
        self.assertEqual(found, [(3, Fraction(3, 4)), (3, Fraction(3, 8))])

    def test_off_ahead_of_the_first_sample(self):
        self.assertEqual(stages(shape(go=ONE), on(), off(), told(), play(), told()), [(3, 0), (0, 0)])

    def test_off_twice(self):
        found = stages(*RISEN, shape(go=HALF), off(), off(), told(), play(), told())
        self.assertEqual(found, [(3, 1), (3, Fraction(1, 2))])


class TheSample(unittest.TestCase):
    def test_it_goes_by_env(self):
        calls = (voice(wave=1, width=1, level=HALF), shape(rise=QUARTER, fall=HALF, keep=HALF), on())
        found = played(opening(), *calls, play(6))
        self.assertEqual(found, [(n, n) for n in (4096, 8192, 12288, 16384, 12288, 10240)])

    def test_by_level_and_by_side(self):
        calls = (voice(wave=1, width=1, level=HALF, left=QUARTER, right=(3, -2)), on())
        self.assertEqual(played(opening(), *calls, play()), [(4096, 12288)])

    def test_by_nought(self):
        for names in ({"level": NOUGHT}, {"left": NOUGHT, "right": NOUGHT}):
            calls = (voice(wave=1, width=1, **names), on())
            self.assertEqual(played(opening(), *calls, play(2)), [(0, 0)] * 2)

    def test_at_first_level_and_sides_are_1(self):
        self.assertEqual(played(opening(), on(step=2 ** 30), play(4)), [(n, n) for n in (0, 16384, -32768, -16384)])


class Sounding(unittest.TestCase):
    def counts(self, *calls):
        return [answer[0] for one, answer in zip(calls, each_answer(opening(), *calls)[1:]) if one == sounding()]

    def test_none(self):
        self.assertEqual(each_answer(opening(), sounding()), [[0], [0]])
        self.assertEqual(self.counts(voice(), shape(), off(), play(), sounding()), [0])

    def test_some_and_all(self):
        calls = []
        for k in (3, 0, 7, 1, 2, 6, 5, 4):
            calls += [on(k), sounding()]
        self.assertEqual(self.counts(*calls), [1, 2, 3, 4, 5, 6, 7, 8])

    def test_each_once(self):
        self.assertEqual(self.counts(on(2), on(2), sounding()), [1])

    def test_rising_falling_and_let_go_sound(self):
        calls = (shape(go=HALF), on(), sounding(), play(), sounding(), off(), sounding(), play(), sounding())
        self.assertEqual(self.counts(*calls), [1, 1, 1, 1])

    def test_until_they_are_still(self):
        calls = (*[on(k) for k in range(8)], play(), off(3), off(5), sounding(), play(), sounding())
        self.assertEqual(self.counts(*calls, opening(), sounding()), [8, 6, 0])

    def test_also_at_env_0(self):
        self.assertEqual(self.counts(shape(rise=NOUGHT), on(), play(), sounding()), [1])


if __name__ == "__main__":
    unittest.main()
