"""Promise 4: least."""

import unittest

from helper import ask, EVERY_N, least_by_search, WRONG_N


class LeastTest(unittest.TestCase):
    def test_known_ones(self):
        told = ask(("begin", 2), ("least", 2), ("least", 3), ("least", 46), ("least", 53), ("least", 58), ("least", 60))
        self.assertEqual(told[1:], [[0, 3, 2], [0, 2, 1], [0, 24335, 3588], [0, 66249, 9100],
                                    [0, 19603, 2574], [0, 31, 4]])

    def test_each_n_by_search(self):
        for n in EVERY_N:
            self.assertEqual(ask(("begin", 2), ("least", n))[1], [0] + least_by_search(n), n)

    def test_wrong_n_is_refused(self):
        for n in WRONG_N:
            self.assertEqual(ask(("begin", 2), ("least", n)), [[0], [-22]], n)

    def test_own_n_and_triple_stay_as_they_are(self):
        for n in [2, 53, 58, 4, 61]:
            told = ask(("begin", 58), "step", ("least", n), "taken", "diffs", "step")
            self.assertEqual(told[3:], [[10, 42], [8, 6, -7, -6, -1, -6, 7, 6, 1], [0, 38, 5, -6]], n)

    def test_apart_from_where_the_object_is(self):
        told = ask(("begin", 3), ("least", 58), "step", ("least", 58))
        self.assertEqual(told[1:], [[0, 19603, 2574], [-16], [0, 19603, 2574]])


if __name__ == "__main__":
    unittest.main()
