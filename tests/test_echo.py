"""The echo: its rows of both sides, what is fed into them and what is heard of them."""

import unittest

from tests.calls import (
    HALF, NOUGHT, ONE, echo, each_answer, first_numbers, last_answer, off, on, opening, play, played, shape, voice,
)

QUARTER = (1, -2)
EIGHTH = (1, -3)


def click(k=0, left=HALF, right=QUARTER):
    """A voice that is 1 for one sample and 0 from then on."""
    return voice(k, 1, 2 ** 32 - 1, left=left, right=right) + shape(k, fall=NOUGHT, keep=NOUGHT) + on(k)


def tone(k=0, up=True, left=ONE, right=ONE):
    """A voice that is 1, or -1, until it is let go, and then 0 at once."""
    return voice(k, 1, 2 ** 32 - 1 if up else 0, left=left, right=right) + shape(k, go=NOUGHT) + on(k)


def lefts(*calls):
    return [left for left, right in played(*calls)]


class Clicks(unittest.TestCase):
    def heard(self, n, samples=10, feed=HALF, heard=HALF):
        return played(opening() + echo(n, feed, heard) + click(), play(samples))

    def by_two(self, lefts):
        return [(left, left // 2) for left in lefts]

    def test_no_numbers_no_echo(self):
        self.assertEqual(self.heard(0), self.by_two([16384] + [0] * 9))
        self.assertEqual(self.heard(0, feed=ONE, heard=ONE), self.by_two([16384] + [0] * 9))

    def test_one_number(self):
        self.assertEqual(self.heard(1, 6), self.by_two([16384, 8192, 4096, 2048, 1024, 512]))

    def test_two(self):
        self.assertEqual(self.heard(2, 6), self.by_two([16384, 0, 8192, 0, 4096, 0]))

    def test_three(self):
        self.assertEqual(self.heard(3), self.by_two([16384, 0, 0, 8192, 0, 0, 4096, 0, 0, 2048]))

    def test_feed_0_is_heard_once(self):
        self.assertEqual(self.heard(3, feed=NOUGHT), self.by_two([16384, 0, 0, 8192, 0, 0, 0, 0, 0, 0]))

    def test_feed_1_is_heard_for_ever(self):
        self.assertEqual(self.heard(3, feed=ONE), self.by_two([16384, 0, 0, 8192, 0, 0, 8192, 0, 0, 8192]))

    def test_heard_0(self):
        self.assertEqual(self.heard(3, heard=NOUGHT), self.by_two([16384] + [0] * 9))

    def test_heard_1(self):
        self.assertEqual(self.heard(3, heard=ONE), self.by_two([16384, 0, 0, 16384, 0, 0, 8192, 0, 0, 4096]))

    def test_feed_and_heard_differ(self):
        found = self.heard(2, 7, feed=QUARTER, heard=HALF)
        self.assertEqual(found, self.by_two([16384, 0, 8192, 0, 2048, 0, 512]))

    def test_the_longest(self):
        calls = (opening(), echo(1024, HALF, HALF), click(), play(256), play(256), play(256), play(256), play(2))
        self.assertEqual(played(*calls), [(8192, 4096), (0, 0)])
        self.assertEqual(played(*calls[:-1])[-1], (0, 0))

    def test_one_short_of_the_longest(self):
        calls = (opening(), echo(1023, HALF, HALF), click(), play(256), play(256), play(256), play(256))
        self.assertEqual(played(*calls)[-2:], [(0, 0), (8192, 4096)])


class Rows(unittest.TestCase):
    def test_what_sounds_goes_in_as_well(self):
        calls = (opening(), echo(1, HALF, HALF), tone(left=QUARTER, right=EIGHTH), play(4))
        self.assertEqual(played(*calls), [(8192, 4096), (12288, 6144), (14336, 7168), (15360, 7680)])

    def test_the_sides_do_not_mix(self):
        calls = (opening(), echo(2, HALF, HALF), click(left=HALF, right=NOUGHT), play(1))
        self.assertEqual(played(*calls, click(1, left=NOUGHT, right=HALF), play(4)),
                         [(0, 16384), (8192, 0), (0, 8192), (4096, 0)])

    def test_from_play_to_play(self):
        calls = (opening(), echo(3, HALF, HALF), click())
        whole = played(*calls, play(10))
        parts = [pair for n in (1, 2, 3, 4) for pair in played(*calls, *[play(m) for m in range(1, n + 1)])]
        self.assertEqual(parts, whole)

    def test_it_goes_on_while_all_are_still(self):
        calls = (opening(), echo(2, ONE, HALF), click(), shape(0, go=NOUGHT), play(1), off(), play(5))
        self.assertEqual(lefts(*calls), [0, 8192, 0, 8192, 0])


class Held(unittest.TestCase):
    def fed(self, samples, up=True):
        """What is in the echo's row, a 32nd of it, behind so many samples of 8 (or -8) with feed 1."""
        sounds = [tone(k, up) for k in range(8)]
        ends = [off(k) for k in range(8)]
        calls = (opening(), echo(1, ONE, (1, -5)), *sounds, play(samples), *ends, play(2))
        return lefts(*calls)

    def test_at_16(self):
        self.assertEqual([self.fed(samples) for samples in (1, 2, 3, 9)],
                         [[8192] * 2, [16384] * 2, [16384] * 2, [16384] * 2])

    def test_at_minus_16(self):
        self.assertEqual([self.fed(samples, False) for samples in (1, 2, 3, 9)],
                         [[-8192] * 2, [-16384] * 2, [-16384] * 2, [-16384] * 2])


class InThePlaceOfAnother(unittest.TestCase):
    def test_a_second_echo_begins_with_noughts(self):
        calls = (opening(), echo(2, ONE, ONE), click(), play(2))
        self.assertEqual(lefts(*calls, play(4)), [16384, 0, 16384, 0])
        self.assertEqual(lefts(*calls, echo(2, ONE, ONE), play(4)), [0, 0, 0, 0])
        self.assertEqual(lefts(*calls, echo(3, HALF, HALF), click(), play(5)), [16384, 0, 0, 8192, 0])

    def test_an_echo_of_none_ends_it(self):
        calls = (opening(), echo(2, ONE, ONE), click(), play(2), echo(0, ONE, ONE))
        self.assertEqual(lefts(*calls, click(), play(4)), [16384, 0, 0, 0])

    def test_open_behind_an_echo(self):
        calls = (opening(), echo(2, ONE, ONE), click(), play(2), opening())
        self.assertEqual(lefts(*calls, play(4)), [0, 0, 0, 0])
        self.assertEqual(lefts(*calls, click(), play(4)), [16384, 0, 0, 0])

    def test_a_refused_one_leaves_the_first(self):
        calls = (opening(), echo(2, HALF, ONE), click(), play(1))
        whole = lefts(*calls, play(6))
        for wrong in (echo(-1), echo(1025), echo(5, (2, 0)), echo(5, ONE, (1, -21)), echo(0, ONE, (-1, 0))):
            with self.subTest(wrong=wrong):
                self.assertEqual(last_answer(*calls, wrong), [-2])
                self.assertEqual(lefts(*calls, wrong, play(6)), whole)

    def test_there_is_none_at_first(self):
        self.assertEqual(lefts(opening(), click(), play(4)), [16384, 0, 0, 0])

    def test_it_is_not_kept_from_list_to_list(self):
        self.assertEqual(first_numbers(opening(), echo(2, ONE, ONE)), [0, 0])
        self.assertEqual(lefts(opening(), click(), play(4)), [16384, 0, 0, 0])

    def test_the_voices_stay(self):
        sounds = (opening(), tone(left=HALF), play(3))
        found = each_answer(*sounds, echo(0, ONE, ONE), play(2))
        self.assertEqual(found[-1], [2, 16384, 32767, 16384, 32767])


if __name__ == "__main__":
    unittest.main()
