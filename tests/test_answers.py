"""What is given back for a list of calls, number by number, and what is done with the list."""

import unittest

from tests.calls import (
    FAR, HALF, MOST_Z, NOUGHT, ONE, blend, call, each_answer, echo, filtering, first_numbers, joined, measure, off, on,
    one_by_one, opening, play, shape, sounding, told, voice,
)
from voicesounds.desk import answers

ORDINARY = [
    1, 0, 0,
    2, 9, 3, 1, 2 ** 30, 1, -1, 3, -2, 1, 0, 0,
    3, 6, 3, 2, 5, -4, 3, -1, 0,
    4, 9, 3, 1, -10, 16777215, -24, 1, -1, 0, 7, 0,
    5, 2, 3, 440 * 97391, 0,
    6, 1, 3, 0,
]

# All twelve calls, several of them refused, with what is answered behind each.
ALL = (
    ([8, 1, 2, 0], [1, -7]),
    ([1, 0, 0], [1, 0]),
    ([10, 0, 0], [1, 0]),
    ([2, 9, 2, 1, 2147483648, 1, -1, 1, 0, 1, -1, 0], [1, 0]),
    ([3, 6, 2, 1, 1, -1, 1, -1, 0], [1, 0]),
    ([4, 9, 2, 1, 0, 1, -1, 1, -1, 1, -1, 0], [1, 0]),
    ([7, 5, 2, 1, -1, 1, 0, 0], [1, 0]),
    ([5, 2, 2, 2, 0], [1, 0]),
    ([10, 0, 0], [1, 1]),
    ([9, 1, 2, 0], [8, 1, 0, 0, 0, 0, 0, 0, 0]),
    # low 0 1/4 5/8, band 1/2 3/4 3/4, env 1 3/4 5/8: heard 0 3/32 25/128, of the echo nothing yet.
    ([8, 1, 3, 0], [7, 3, 0, 0, 3072, 1536, 6400, 3200]),
    ([9, 1, 2, 0], [8, 2, 6, 5, -3, 5, -3, 3, -2]),
    ([8, 1, 257, 0], [1, -2]),
    ([9, 1, 8, 0], [1, -2]),
    ([6, 1, 2, 0], [1, 0]),
    # low 1, h -3/8, band 9/16, env 5/16: heard 5/32, and 3/32 of the echo.
    ([8, 1, 1, 0], [3, 1, 8192, 4096]),
    ([9, 1, 2, 0], [8, 3, 8, 5, -4, 1, 0, 9, -4]),
    ([11, 6, 2, 16384, 100, -5, 300, 6, 0], [3, 2, 200, 1]),
    ([11, 2, 513, 16384, 0], [1, -2]),
    ([12, 5, 4, -3, 0, -4, 1, 0], [4, 0, 26, 4, 2]),
    ([12, 1, -1, 0], [1, -2]),
    ([7, 5, 1025, 1, -1, 1, 0, 0], [1, -2]),
    ([7, 5, 0, 1, -1, 1, 0, 0], [1, 0]),
    # low 41/32, h -9/16, band 9/32, env 5/32: heard 205/2048, without an echo now.
    ([8, 1, 1, 0], [3, 1, 3280, 1640]),
    ([1, 0, 0], [1, 0]),
    ([9, 1, 2, 0], [8, 0, 0, 0, 0, 0, 0, 0, 0]),
    ([10, 0, 0], [1, 0]),
)


class Unchanging(list):
    """A list that may only be read."""

    def refuse(self, *args, **kwargs):
        raise AssertionError("what is handed in was changed")

    append = extend = insert = pop = remove = clear = sort = reverse = refuse
    __setitem__ = __delitem__ = __iadd__ = __imul__ = refuse


class OrdinaryCalls(unittest.TestCase):
    def test_each_call_by_itself_behind_open(self):
        for one in (opening(), voice(), filtering(), shape(), on(), off()):
            with self.subTest(one=one):
                self.assertEqual(answers(opening() + one), [1, 0, 1, 0])

    def test_open_alone(self):
        self.assertEqual(answers([1, 0, 0]), [1, 0])

    def test_all_six_one_behind_another(self):
        self.assertEqual(answers(ORDINARY), [1, 0, 1, 0, 1, 0, 1, 0, 1, 0, 1, 0])

    def test_each_of_the_later_calls_by_itself_behind_open(self):
        pairs = (
            (echo(), [1, 0]), (play(2), [5, 2, 0, 0, 0, 0]), (told(), [8] + [0] * 8), (sounding(), [1, 0]),
            (blend(1, 0, [5], [6]), [2, 1, 5]), (blend(), [1, 0]), (measure(1, [-5]), [4, 0, 25, 5, 0]),
            (measure(), [4, 0, 0, 0, 0]),
        )
        for one, given in pairs:
            with self.subTest(one=one):
                self.assertEqual(answers(opening() + one), [1, 0] + given)

    def test_all_twelve_number_by_number(self):
        given = each_answer(*[one for one, expected in ALL])
        for (one, expected), answer in zip(ALL, given):
            self.assertEqual([len(answer), *answer], expected, one)
        self.assertEqual(answers(joined(one for one, expected in ALL)), joined(expected for one, expected in ALL))

    def test_answers_and_refusals_by_turns(self):
        calls = off(1) + opening() + on(8, 5) + on(7, 5) + off(-1) + off(7) + opening() + filtering(0, 4)
        self.assertEqual(answers(calls), [1, -7, 1, 0, 1, -2, 1, 0, 1, -2, 1, 0, 1, 0, 1, -2])

    def test_every_voice_takes_every_call(self):
        for k in range(8):
            with self.subTest(k=k):
                given = first_numbers(opening(), voice(k), filtering(k), shape(k), on(k), off(k))
                self.assertEqual(given, [0] * 6)

    def test_off_of_a_still_voice_and_twice(self):
        self.assertEqual(first_numbers(opening(), off(2), on(2, 9), off(2), off(2)), [0] * 5)

    def test_sixty_calls(self):
        self.assertEqual(first_numbers(opening(), *[shape(n % 8) for n in range(59)]), [0] * 60)

    def test_what_is_given_back_is_a_list_of_ints(self):
        given = answers(ORDINARY + voice(9) + joined(one for one, expected in ALL))
        self.assertIs(type(given), list)
        self.assertEqual({type(number) for number in given}, {int})


class NothingOpen(unittest.TestCase):
    def test_each_call_ahead_of_the_first_open(self):
        for one in (voice(), filtering(), shape(), on(), off(), echo(5), sounding(), blend()):
            with self.subTest(one=one):
                self.assertEqual(answers(one), [1, -7])
                self.assertEqual(answers(one + opening() + one), [1, -7, 1, 0, 1, 0])

    def test_each_that_tells_more_tells_nothing_behind_it(self):
        for one in (play(1), play(256), told(0), told(7), blend(2, 9, [1, 2], [3, 4]), measure(2, [1, 2]), measure()):
            with self.subTest(one=one):
                self.assertEqual(answers(one), [1, -7])
                self.assertEqual(each_answer(one, opening(), one)[:2], [[-7], [0]])
                self.assertEqual(len(each_answer(one, opening(), one)), 3)

    def test_also_where_a_number_is_not_as_told(self):
        wrong = (
            voice(8), voice(wave=4), voice(width=-1), voice(level=(2, 0)),
            filtering(-1), filtering(mode=4), filtering(damp=(3, 0)),
            shape(FAR), shape(go=(-1, 0)), on(8), on(step=-1), off(-FAR),
            echo(-1), echo(1025), echo(feed=(2, 0)), echo(heard=(1, -21)), play(0), play(257), play(-FAR), told(8),
            told(-1), blend(-1), blend(513), blend(FAR), blend(1, 32768), blend(1, -1), measure(-1), measure(513),
        )
        for one in wrong:
            with self.subTest(one=one):
                self.assertEqual(answers(one), [1, -7])
                self.assertEqual(answers(one + opening() + one), [1, -7, 1, 0, 1, -2])

    def test_what_is_refused_ahead_of_open_opens_nothing(self):
        self.assertEqual(first_numbers(on(), on(), voice(8), on()), [-7] * 4)

    def test_calls_of_every_length(self):
        others = (call(7, 3, 1, -1, 1, -1), call(8, 1), call(9, 0), call(10), call(11, 1, 5, 3, -3), call(12, 0))
        self.assertEqual(first_numbers(*others, opening()), [-7] * 6 + [0])

    def test_the_longest_list_ahead_of_open(self):
        blend = call(11, 512, 9, *[n - 512 for n in range(1024)])
        calls = blend * 15 + call(12, 502, *[1] * 502) + off() * 14 + opening()
        self.assertEqual(len(calls), 16000)
        self.assertEqual(answers(calls), [1, -7] * 30 + [1, 0])


class TheLongestLists(unittest.TestCase):
    def test_16000_numbers(self):
        a = [n - 256 for n in range(512)]
        b = [3 * n - 700 for n in range(512)]
        row = [n * (-1) ** n for n in range(502)]
        calls = opening() + blend(512, 9000, a, b) * 15 + measure(502, row) + off() * 14
        self.assertEqual(len(calls), 16000)
        given = one_by_one(answers(calls))
        blended = [(x * 23767 + 16384) // 32768 + (y * 9000 + 16384) // 32768 for x, y in zip(a, b)]
        self.assertEqual(given[0], [0])
        self.assertEqual(given[1:16], [[512] + blended] * 15)
        self.assertEqual(given[16], [0, sum(n * n for n in range(502)), 501, 250])
        self.assertEqual(given[17:], [[0]] * 14)

    def test_60_calls_that_play_256(self):
        given = each_answer(opening(), on(5, 2 ** 24), *[play(256)] * 58)
        whole = [sample for k in range(128) for sample in (k * 256, k * 256)]
        whole += [sample for k in range(128) for sample in (k * 256 - 32768, k * 256 - 32768)]
        self.assertEqual(given, [[0], [0]] + [[256] + whole] * 58)

    def test_in_whatever_parts_it_is_played(self):
        calls = (opening(), echo(9, HALF, HALF), voice(1, 3), filtering(1, 2, HALF, HALF), on(1, 99), on(2, 10 ** 8))
        whole = each_answer(*calls, play(256))[-1][1:]
        parts = each_answer(*calls, *[play(n) for n in (1, 2, 3, 50, 100, 99, 1)])[6:]
        self.assertEqual([sample for count, *samples in parts for sample in samples], whole)


class WhatIsHandedIn(unittest.TestCase):
    CALLS = ORDINARY + voice(9) + shape(rise=(MOST_Z, 200)) + joined(one for one, expected in ALL)

    def test_it_is_as_it_was(self):
        calls = list(self.CALLS)
        answers(calls)
        self.assertEqual(calls, self.CALLS)

    def test_it_is_not_changed_for_a_while_either(self):
        self.assertEqual(answers(Unchanging(self.CALLS)), answers(self.CALLS))

    def test_the_same_list_is_answered_alike(self):
        calls = joined([on(1), opening(), on(1, 7), off(1), voice(0, 0, -1), filtering(7, 3, HALF, HALF)])
        expected = [1, -7, 1, 0, 1, 0, 1, 0, 1, -2, 1, 0]
        self.assertEqual([answers(calls) for again in range(3)], [expected] * 3)

    def test_the_same_list_that_plays_is_answered_alike(self):
        calls = joined([
            opening(), echo(3, ONE, HALF), voice(0, 3), shape(0, go=ONE), on(0, 5), off(1), play(40), told(0),
            sounding(), blend(2, 77, [1, -2], [3, -4]), measure(2, [-1, 0]), filtering(0, 1, HALF, NOUGHT), play(3),
            told(0),
        ])
        first = answers(calls)
        self.assertEqual(answers(calls), first)
        answers(opening() + echo(1024) + on(0, 9) + play(256))
        self.assertEqual(answers(calls), first)

    def test_what_is_given_back_is_the_callers_own(self):
        answers(ORDINARY).clear()
        self.assertEqual(answers(ORDINARY), [1, 0] * 6)

    def test_nothing_is_open_in_the_next_list(self):
        self.assertEqual(answers(opening()), [1, 0])
        self.assertEqual(answers(on()), [1, -7])


if __name__ == "__main__":
    unittest.main()
