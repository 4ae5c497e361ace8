"""The whole numbers of the calls: their edges, one beyond, and as far out as may be handed in."""

import unittest

from tests.calls import FAR, WHOLES, blend, once_open, play


class Edges(unittest.TestCase):
    def test_within(self):
        for make, name, least, most in WHOLES:
            for number in (least, least + 1, (least + most) // 2, most - 1, most):
                with self.subTest(call=make.__name__, name=name, number=number):
                    expected = number if make in (play, blend) and name == "n" else 0
                    self.assertEqual(once_open(make(**{name: number})), expected)

    def test_beyond(self):
        for make, name, least, most in WHOLES:
            for number in (least - 1, most + 1, -FAR, FAR, 1 - FAR, FAR - 1, -(2 ** 32), 2 ** 32, 2 ** 32 + 1):
                with self.subTest(call=make.__name__, name=name, number=number):
                    self.assertEqual(once_open(make(**{name: number})), -2)

    def test_the_edges_as_the_document_writes_them(self):
        self.assertEqual(once_open([2, 9, 7, 3, 4294967295, 1, 0, 1, 0, 1, 0, 0]), 0)
        self.assertEqual(once_open([2, 9, 7, 3, 4294967296, 1, 0, 1, 0, 1, 0, 0]), -2)
        self.assertEqual(once_open([5, 2, 0, 2147483648, 0]), 0)
        self.assertEqual(once_open([5, 2, 0, 2147483649, 0]), -2)
        self.assertEqual(once_open([7, 5, 1024, 1, 0, 1, 0, 0]), 0)
        self.assertEqual(once_open([7, 5, 1025, 1, 0, 1, 0, 0]), -2)
        self.assertEqual(once_open([8, 1, 256, 0]), 256)
        self.assertEqual(once_open([8, 1, 257, 0]), -2)
        self.assertEqual(once_open([8, 1, 0, 0]), -2)
        self.assertEqual(once_open([11, 4, 1, 32767, -5, 7, 0]), 1)
        self.assertEqual(once_open([11, 4, 1, 32768, -5, 7, 0]), -2)
        self.assertEqual(once_open([11, 4, 1, -1, -5, 7, 0]), -2)
        self.assertEqual(once_open([11, 2, 513, 5, 0]), -2)
        self.assertEqual(once_open([11, 2, -1, 5, 0]), -2)
        self.assertEqual(once_open([12, 1, 513, 0]), -2)
        self.assertEqual(once_open([12, 1, -1, 0]), -2)


if __name__ == "__main__":
    unittest.main()
