"""Promise 3: all and diffs."""

import unittest

from helper import ask, EVERY_N, way_by_words


def pairs_told(way):
    return [len(way)] + [number for a, b, k in way for number in (a, b)]


def differences_told(way):
    return [len(way)] + [k for a, b, k in way]


class AllTest(unittest.TestCase):
    def test_some(self):
        self.assertEqual(ask(("begin", 2), "all")[1], [2, 1, 1, 3, 2])
        self.assertEqual(ask(("begin", 3), "all")[1], [1, 2, 1])
        self.assertEqual(ask(("begin", 13), "all")[1], [6, 4, 1, 7, 2, 18, 5, 137, 38, 256, 71, 649, 180])

    def test_each_n(self):
        for n in EVERY_N:
            self.assertEqual(ask(("begin", n), "all")[1], pairs_told(way_by_words(n)), n)


class DiffsTest(unittest.TestCase):
    def test_some(self):
        self.assertEqual(ask(("begin", 2), "diffs")[1], [2, -1, 1])
        self.assertEqual(ask(("begin", 3), "diffs")[1], [1, 1])
        self.assertEqual(ask(("begin", 46), "diffs")[1], [8, 3, 6, -5, 2, -5, 6, 3, 1])
        self.assertEqual(ask(("begin", 53), "diffs")[1], [8, -4, 7, 4, -1, 4, -7, -4, 1])
        self.assertEqual(ask(("begin", 58), "diffs")[1], [8, 6, -7, -6, -1, -6, 7, 6, 1])

    def test_each_n(self):
        for n in EVERY_N:
            self.assertEqual(ask(("begin", n), "diffs")[1], differences_told(way_by_words(n)), n)


class WhereverTest(unittest.TestCase):
    def test_same_at_every_triple(self):
        for n in EVERY_N:
            way = way_by_words(n)
            told = ask(("begin", n), *["all", "diffs", "step"] * len(way), "all", "diffs")
            self.assertEqual(told[1::3], [pairs_told(way)] * (len(way) + 1), n)
            self.assertEqual(told[2::3], [differences_told(way)] * (len(way) + 1), n)

    def test_they_change_nothing(self):
        self.assertEqual(ask(("begin", 58), "step", "all", "diffs", "taken", "step")[4:], [[10, 42], [0, 38, 5, -6]])

    def test_of_the_newest_n(self):
        self.assertEqual(ask(("begin", 58), ("begin", 2), "all", "diffs")[2:], [[2, 1, 1, 3, 2], [2, -1, 1]])


if __name__ == "__main__":
    unittest.main()
