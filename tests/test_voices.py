"""What the calls make of the voices."""

import unittest

from tests.calls import (
    FAR, FLOATS, HALF, WHOLES, desk_after, filtering, first_numbers, off, on, opening, shape, state, voice,
)
from voicesounds.desk import answers_at
from voicesounds.voice import Voice

ONE = 2 ** 149
AT_FIRST = {
    "wave": 0, "width": 2 ** 31, "level": ONE, "left": ONE, "right": ONE,
    "mode": 0, "cut": 0, "damp": 0,
    "rise": ONE, "fall": 0, "keep": ONE, "go": 0,
    "phase": 0, "draw": 1, "step": 0, "low": 0, "band": 0, "stage": 0, "env": 0,
}
# A voice in the midst of sounding, no two of its numbers alike.
MIDWAY = {
    "wave": 3, "width": 77, "level": ONE // 2, "left": ONE // 4, "right": ONE // 8,
    "mode": 2, "cut": ONE // 16, "damp": ONE // 32,
    "rise": ONE // 64, "fall": ONE // 128, "keep": ONE // 256, "go": ONE // 512,
    "phase": 123456, "draw": 654321, "step": 99, "low": ONE * 3, "band": ONE * 5, "stage": 2, "env": ONE // 3,
}


def all_calls(k):
    return (
        voice(k, 2, 11, HALF, (1, -2), (1, -3)),
        filtering(k, 1, (1, -4), (3, -1)),
        shape(k, (1, -5), (1, -6), (1, -7), (1, -8)),
        on(k, 12),
        off(k),
    )


def desk_with(numbers):
    desk = desk_after(opening())
    for each in desk.voices:
        vars(each).update(numbers)
    return desk


class VoiceTests(unittest.TestCase):
    def after(self, one, k, changed, begin=MIDWAY):
        """That a call makes these changes to voice k, which is as begin, and none beside them."""
        desk = desk_with(begin)
        self.assertEqual(answers_at(desk, one), [1, 0])
        expected = [dict(begin) for each in range(8)]
        expected[k].update(changed)
        self.assertEqual(state(desk), expected)


class AtFirst(unittest.TestCase):
    def test_a_voice(self):
        self.assertEqual(vars(Voice()), AT_FIRST)

    def test_nothing_is_there_ahead_of_open(self):
        self.assertEqual(state(desk_after()), [])
        self.assertEqual(state(desk_after(*all_calls(0))), [])

    def test_open_gives_eight(self):
        self.assertEqual(state(desk_after(opening())), [AT_FIRST] * 8)

    def test_open_again_gives_eight_as_at_first(self):
        sets = [one for k in range(8) for one in all_calls(k)[:4]]
        self.assertNotIn(AT_FIRST, state(desk_after(opening(), *sets)))
        self.assertEqual(state(desk_after(opening(), *sets, opening())), [AT_FIRST] * 8)


class Changes(VoiceTests):
    def test_voice(self):
        for k in range(8):
            changed = {"wave": 1, "width": 5, "level": ONE * 3 // 4, "left": 0, "right": ONE * 5 // 8}
            self.after(voice(k, 1, 5, (3, -2), (0, 9), (5, -3)), k, changed)

    def test_filter(self):
        for k in range(8):
            changed = {"mode": 3, "cut": ONE * 3 // 4, "damp": ONE * 7 // 4}
            self.after(filtering(k, 3, (3, -2), (7, -2)), k, changed)

    def test_shape(self):
        for k in range(8):
            changed = {"rise": ONE * 3 // 4, "fall": ONE * 5 // 8, "keep": 0, "go": ONE * 7 // 8}
            self.after(shape(k, (3, -2), (5, -3), (0, -9), (7, -3)), k, changed)

    def test_on(self):
        changed = {"step": 2 ** 31, "phase": 0, "draw": 1, "low": 0, "band": 0, "stage": 1}
        for k in range(8):
            for stage in range(4):
                self.after(on(k, 2 ** 31), k, changed, {**MIDWAY, "stage": stage})

    def test_off(self):
        for k in range(8):
            for stage in (1, 2, 3):
                self.after(off(k), k, {"stage": 3}, {**MIDWAY, "stage": stage})

    def test_off_of_a_still_voice(self):
        for k in range(8):
            self.after(off(k), k, {}, {**MIDWAY, "stage": 0})
            self.after(off(k), k, {}, AT_FIRST)


class Refusals(unittest.TestCase):
    def wrong_calls(self):
        for make, name, least, most in WHOLES:
            for number in (least - 1, most + 1, -FAR, FAR):
                yield make(**{name: number})
        for make, name, most in FLOATS:
            for written in ((1, -21), (most * 2 + 1, -1), (-1, 0), (2 ** 24, 200)):
                yield make(**{name: written})

    def test_a_refusal_changes_nothing(self):
        for one in self.wrong_calls():
            with self.subTest(one=one):
                desk = desk_with(MIDWAY)
                self.assertEqual(answers_at(desk, one), [1, -2])
                self.assertEqual(state(desk), [MIDWAY] * 8)

    def test_the_calls_go_on_as_if_it_had_not_been(self):
        calls = [opening(), *[one for k in range(8) for one in all_calls(k)]]
        expected = state(desk_after(*calls))
        for one in self.wrong_calls():
            for place in (1, 5, len(calls)):
                with self.subTest(one=one, place=place):
                    mixed = calls[:place] + [one] + calls[place:]
                    told = [0] * place + [-2] + [0] * (len(calls) - place)
                    self.assertEqual(first_numbers(*mixed), told)
                    self.assertEqual(state(desk_after(*mixed)), expected)


if __name__ == "__main__":
    unittest.main()
