"""What is given back for a list of calls, number by number, and what is done with the list."""

import unittest

from tests.calls import FAR, HALF, MOST_Z, call, filtering, first_numbers, joined, off, on, opening, shape, voice
from voicesounds.desk import answers

ORDINARY = [
    1, 0, 0,
    2, 9, 3, 1, 2 ** 30, 1, -1, 3, -2, 1, 0, 0,
    3, 6, 3, 2, 5, -4, 3, -1, 0,
    4, 9, 3, 1, -10, 16777215, -24, 1, -1, 0, 7, 0,
    5, 2, 3, 440 * 97391, 0,
    6, 1, 3, 0,
]


class Unchanging(list):
    """A list that may only be read."""

    def refuse(self, *args, **kwargs):
        raise AssertionError("what is handed in was changed")

    append = extend = insert = pop = remove = clear = sort = reverse = refuse
    __setitem__ = __delitem__ = __iadd__ = __imul__ = refuse


class OrdinaryCalls(unittest.TestCase):
    def test_each_call_by_itself_behind_open(self):
        for one in (opening(), voice(), filtering(), shape(), on(), off()):
            with self.subTest(one=one):
                self.assertEqual(answers(opening() + one), [1, 0, 1, 0])

    def test_open_alone(self):
        self.assertEqual(answers([1, 0, 0]), [1, 0])

    def test_all_six_one_behind_another(self):
        self.assertEqual(answers(ORDINARY), [1, 0, 1, 0, 1, 0, 1, 0, 1, 0, 1, 0])

    def test_answers_and_refusals_by_turns(self):
        calls = off(1) + opening() + on(8, 5) + on(7, 5) + off(-1) + off(7) + opening() + filtering(0, 4)
        self.assertEqual(answers(calls), [1, -7, 1, 0, 1, -2, 1, 0, 1, -2, 1, 0, 1, 0, 1, -2])

    def test_every_voice_takes_every_call(self):
        for k in range(8):
            with self.subTest(k=k):
                told = first_numbers(opening(), voice(k), filtering(k), shape(k), on(k), off(k))
                self.assertEqual(told, [0] * 6)

    def test_off_of_a_still_voice_and_twice(self):
        self.assertEqual(first_numbers(opening(), off(2), on(2, 9), off(2), off(2)), [0] * 5)

    def test_sixty_calls(self):
        self.assertEqual(first_numbers(opening(), *[shape(n % 8) for n in range(59)]), [0] * 60)

    def test_what_is_given_back_is_a_list_of_ints(self):
        told = answers(ORDINARY + voice(9))
        self.assertIs(type(told), list)
        self.assertEqual({type(number) for number in told}, {int})


class NothingOpen(unittest.TestCase):
    def test_each_call_ahead_of_the_first_open(self):
        for one in (voice(), filtering(), shape(), on(), off()):
            with self.subTest(one=one):
                self.assertEqual(answers(one), [1, -7])
                self.assertEqual(answers(one + opening() + one), [1, -7, 1, 0, 1, 0])

    def test_also_where_a_number_is_not_as_told(self):
        wrong = (
            voice(8), voice(wave=4), voice(width=-1), voice(level=(2, 0)),
            filtering(-1), filtering(mode=4), filtering(damp=(3, 0)),
            shape(FAR), shape(go=(-1, 0)), on(8), on(step=-1), off(-FAR),
        )
        for one in wrong:
            with self.subTest(one=one):
                self.assertEqual(answers(one), [1, -7])
                self.assertEqual(answers(one + opening() + one), [1, -7, 1, 0, 1, -2])

    def test_what_is_refused_ahead_of_open_opens_nothing(self):
        self.assertEqual(first_numbers(on(), on(), voice(8), on()), [-7] * 4)

    def test_calls_of_every_length(self):
        others = (call(7, 3, 1, -1, 1, -1), call(8, 1), call(9, 0), call(10), call(11, 1, 5, 3, -3), call(12, 0))
        self.assertEqual(first_numbers(*others, opening()), [-7] * 6 + [0])

    def test_the_longest_list(self):
        blend = call(11, 512, 9, *[n - 512 for n in range(1024)])
        calls = blend * 15 + call(12, 502, *[1] * 502) + off() * 14 + opening()
        self.assertEqual(len(calls), 16000)
        self.assertEqual(answers(calls), [1, -7] * 30 + [1, 0])


class WhatIsHandedIn(unittest.TestCase):
    def test_it_is_as_it_was(self):
        calls = ORDINARY + voice(9) + shape(rise=(MOST_Z, 200))
        before = list(calls)
        answers(calls)
        self.assertEqual(calls, before)

    def test_it_is_not_changed_for_a_while_either(self):
        calls = ORDINARY + voice(9) + shape(rise=(MOST_Z, 200))
        self.assertEqual(answers(Unchanging(calls)), answers(calls))

    def test_the_same_list_is_answered_alike(self):
        calls = joined([on(1), opening(), on(1, 7), off(1), voice(0, 0, -1), filtering(7, 3, HALF, HALF)])
        expected = [1, -7, 1, 0, 1, 0, 1, 0, 1, -2, 1, 0]
        self.assertEqual([answers(calls) for again in range(3)], [expected] * 3)

    def test_what_is_given_back_is_the_callers_own(self):
        answers(ORDINARY).clear()
        self.assertEqual(answers(ORDINARY), [1, 0] * 6)

    def test_nothing_is_open_in_the_next_list(self):
        self.assertEqual(answers(opening()), [1, 0])
        self.assertEqual(answers(on()), [1, -7])


if __name__ == "__main__":
    unittest.main()
