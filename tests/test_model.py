"""Many lists of calls, answered by the program and by another one written with the machine's own floats.

A double holds the product of two floats whole, and for sums, differences and products of floats, rounding to a
double first and then to a float ends where rounding once does. So here each step is a double's, made a float.
"""

import math
import random
import struct
import unittest

from tests.calls import (
    MOST_Z, blend, echo, filtering, joined, measure, off, on, opening, play, shape, sounding, told, voice,
)
from voicesounds.desk import answers

TURN = 2 ** 32
# Where the floats begin among the numbers of a call that has some.
FIRST_FLOAT = {2: 3, 3: 2, 4: 1, 7: 1}


def single(number):
    return struct.unpack("<f", struct.pack("<f", number))[0]


def held(number):
    return min(16.0, max(-16.0, number))


def part(bits):
    return single(float(bits - TURN if bits >= TURN // 2 else bits)) / 2 ** 31


def pair(number):
    if number == 0:
        return [0, 0]
    top, bottom = number.as_integer_ratio()
    e = 1 - bottom.bit_length()
    while top % 2 == 0:
        top //= 2
        e += 1
    return [top, e]


def sixteen(number):
    return min(32767, max(-32768, round(number)))


class ModelVoice:
    def __init__(self):
        self.sound = (0, 2 ** 31, 1.0, 1.0, 1.0)
        self.sieve = (0, 0.0, 0.0)
        self.form = (1.0, 0.0, 1.0, 0.0)
        self.phase, self.draw, self.step = 0, 1, 0
        self.low = self.band = self.env = 0.0
        self.stage = 0

    def bend(self):
        rise, fall, keep, go = self.form
        if self.stage == 1:
            self.env = single(self.env + rise)
            if self.env >= 1:
                self.env, self.stage = 1.0, 2
        elif self.stage == 2:
            self.env = single(keep + single(single(self.env - keep) * fall))
        else:
            self.env = single(self.env * go)
            if self.env < 2 ** -20:
                self.env, self.stage = 0.0, 0

    def tone(self):
        wave, width = self.sound[:2]
        if wave == 1:
            return 1.0 if self.phase < width else -1.0
        if wave == 2:
            return single(2 * abs(part(self.phase)) - 1)
        return part(self.draw if wave == 3 else self.phase)

    def sample(self):
        if self.stage == 0:
            return 0.0
        self.bend()
        x = self.tone()
        mode, cut, damp = self.sieve
        self.low = held(single(self.low + single(cut * self.band)))
        h = held(single(single(x - self.low) - single(damp * self.band)))
        self.band = held(single(self.band + single(cut * h)))
        out = [x, self.low, self.band, h][mode]
        self.phase = (self.phase + self.step) % TURN
        self.draw = (1664525 * self.draw + 1013904223) % TURN
        return single(single(out * self.env) * self.sound[2])


class Model:
    def __init__(self):
        self.voices = [ModelVoice() for k in range(8)]
        self.rows, self.feed, self.heard = ([], []), 0.0, 0.0

    def frame(self):
        sides = [0.0, 0.0]
        for each in self.voices:
            sample = each.sample()
            for side in (0, 1):
                sides[side] = single(sides[side] + single(sample * each.sound[3 + side]))
        for side, row in enumerate(self.rows):
            if row:
                x, d = sides[side], row.pop(0)
                row.append(held(single(x + single(self.feed * d))))
                sides[side] = single(x + single(self.heard * d))
        return [sixteen(side * 32768) for side in sides]

    def answer(self, number, numbers):
        """The calls 2 to 12, with numbers that may be handed in."""
        first = FIRST_FLOAT.get(number, len(numbers))
        floats = [math.ldexp(z, e) for z, e in zip(numbers[first::2], numbers[first + 1::2])]
        if number == 7:
            self.rows = ([0.0] * numbers[0], [0.0] * numbers[0])
            self.feed, self.heard = floats
            return [0]
        if number == 8:
            return [numbers[0]] + [sample for turn in range(numbers[0]) for sample in self.frame()]
        if number == 10:
            return [sum(each.stage != 0 for each in self.voices)]
        if number == 11:
            n, g, *rows = numbers
            return [n] + [
                sixteen(math.floor((a * (32767 - g) + 16384) / 32768) + math.floor((b * g + 16384) / 32768))
                for a, b in zip(rows[:n], rows[n:])
            ]
        if number == 12:
            row = numbers[1:]
            risen = sum(a < 0 <= b for a, b in zip(row, row[1:]))
            return [0, sum(x ** 2 for x in row), max(map(abs, row), default=0), risen]
        return self.of_voice(self.voices[numbers[0]], number, numbers, floats)

    def of_voice(self, each, number, numbers, floats):
        if number == 2:
            each.sound = (*numbers[1:3], *floats)
        elif number == 3:
            each.sieve = (numbers[1], *floats)
        elif number == 4:
            each.form = tuple(floats)
        elif number == 5:
            each.step, each.phase, each.draw, each.low, each.band, each.stage = numbers[1], 0, 1, 0.0, 0.0, 1
        elif number == 6:
            each.stage = 3 if each.stage else 0
        else:
            return [each.stage, each.phase] + pair(each.env) + pair(each.low) + pair(each.band)
        return [0]


def model_answers(calls):
    """The calls as a list of lists, each with numbers that may be handed in, an open first."""
    given = []
    for one in calls:
        if one[0] == 1:
            model = Model()
            answer = [0]
        else:
            answer = model.answer(one[0], one[2:-1])
        given += [len(answer), *answer]
    return given


class Maker:
    """Makes calls by a source of its own, so that they are the same each time."""

    def __init__(self, seed):
        self.source = random.Random(seed)

    def number(self, least, most):
        pick = self.source.random()
        if pick < 0.1:
            return self.source.choice((least, most))
        return self.source.randint(least, most)

    def float(self, most=1):
        pick = self.source.random()
        if pick < 0.1:
            return 0, self.source.randint(-200, 200)
        if pick < 0.25:
            return most, 0
        if pick < 0.35:
            return 1, self.source.randint(-20, 0)
        e = self.source.choice((-24, -24, -24, self.source.randint(-43, -24)))
        return self.source.randint(MOST_Z // 2, MOST_Z), e

    def row(self, count):
        return [self.source.choice((0, -1, -32768, 32767, self.source.randint(-32768, 32767))) for k in range(count)]

    def setting(self, k):
        kind = self.source.randrange(4)
        if kind == 0:
            return voice(k, self.number(0, 3), self.number(0, TURN - 1), self.float(), self.float(), self.float())
        if kind == 1:
            return filtering(k, self.number(0, 3), self.float(), self.float(2))
        if kind == 2:
            return shape(k, self.float(), self.float(), self.float(), self.float())
        return on(k, self.number(0, 2 ** 31))

    def other(self):
        kind = self.source.randrange(20)
        n = self.source.choice((0, 1, 2, 9, 30))
        if kind < 6:
            return told(self.number(0, 7))
        if kind < 8:
            return off(self.number(0, 7))
        if kind < 9:
            return sounding()
        if kind < 10:
            return echo(self.source.choice((0, 1, 2, 7, 60, 200)), self.float(), self.float())
        if kind < 11:
            return blend(n, self.number(0, 32767), self.row(n), self.row(n))
        if kind < 12:
            return measure(n, self.row(n))
        return play(self.source.choice((1, 1, 2, 5, 20, 60)))

    def calls(self):
        voices = self.source.choice((1, 2, 8))
        made = [opening()]
        while len(made) < 59:
            k = self.source.randrange(voices)
            made.append(self.setting(k) if self.source.random() < 0.45 else self.other())
        if self.source.random() < 0.1:
            made[self.source.randrange(59)] = opening()
            made[0] = opening()
        return made + [told(0)]


class Alike(unittest.TestCase):
    def test_many_lists(self):
        for seed in range(400):
            calls = Maker(seed).calls()
            self.assertEqual(answers(joined(calls)), model_answers(calls), seed)

    def test_a_filter_that_rings_out_to_the_denormals(self):
        # Wave 0 at step 0 is 0 for ever: what wave 1 has left in the memory dies away below the smallest float.
        for cut, damp in (((1, -1), (1, 1)), ((11111111, -24), (3, -1)), ((3, -2), (12345677, -23)), ((1, -2), (1, 1))):
            calls = [opening(), voice(0, 1, 9), filtering(0, 2, cut, damp), on(0, 0), play(4), voice(0, 0)]
            calls += [play(20), told(0)] * 27
            with self.subTest(cut=cut, damp=damp):
                given = answers(joined(calls))
                self.assertEqual(given, model_answers(calls))
                self.assertIn(-149, given)

    def test_play_with_256_many_times(self):
        maker = Maker(1000)
        calls = [opening(), echo(1024, maker.float(), maker.float())]
        for k in range(8):
            calls += [voice(k, k % 4, 2 ** 31, (3, -3), maker.float(), maker.float()), on(k, maker.number(1, 2 ** 27))]
            calls += [filtering(k, k % 3, (maker.source.randint(1, 2 ** 20), -20), (11184811, -24))]
        calls += [play(256)] * (60 - len(calls))
        given = answers(joined(calls))
        self.assertEqual(len(given), 26 * 2 + 34 * 514)
        self.assertEqual(given, model_answers(calls))


if __name__ == "__main__":
    unittest.main()
