"""Promise 3: short."""

import unittest

from helper import ask, EVERY_N, way_by_words

AT_THE_FIRST = [
    (3, [2, 1, 1]), (2, [1, 1, -1]), (7, [3, 1, 2]), (6, [2, 1, -2]), (21, [5, 1, 4]), (20, [4, 1, -4]),
    (53, [7, 1, -4]), (60, [8, 1, 4]),
]

LATER = [
    (12, [7, 2, 1]), (13, [18, 5, -1]), (31, [39, 7, 2]), (19, [13, 3, -2]), (28, [16, 3, 4]), (52, [36, 5, -4]),
    (46, [156, 23, 2]), (55, [89, 12, 1]), (58, [99, 13, -1]),
]


def short_by_words(n):
    return [triple for triple in way_by_words(n) if triple[2] in (1, -1, 2, -2, 4, -4)][0]


class ShortTest(unittest.TestCase):
    def test_the_first_triple(self):
        for n, triple in AT_THE_FIRST:
            self.assertEqual(ask(("begin", n), "short", ("steps", 0))[1:], [[0] + triple] * 2, n)

    def test_a_later_triple(self):
        for n, triple in LATER:
            told = ask(("begin", n), "short", ("steps", 0))
            self.assertEqual(told[1], [0] + triple, n)
            self.assertNotEqual(told[2], told[1], n)

    def test_each_n_at_every_triple(self):
        for n in EVERY_N:
            way = way_by_words(n)
            told = ask(("begin", n), *["short", "step"] * len(way), "short", "again", "short")
            self.assertEqual(told[1::2], [[0, *short_by_words(n)]] * (len(way) + 2), n)

    def test_changes_nothing(self):
        told = ask(("begin", 58), "short", "step", "short", "taken", "step")
        self.assertEqual(told[2:], [[0, 15, 2, -7], [0, 99, 13, -1], [10, 42], [0, 38, 5, -6]])

    def test_of_the_newest_n(self):
        self.assertEqual(ask(("begin", 58), ("begin", 46), ("begin", 4), "short")[-1], [0, 156, 23, 2])


if __name__ == "__main__":
    unittest.main()
