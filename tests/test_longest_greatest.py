"""Promise 4: longest and greatest."""

import unittest

from helper import ask, GREATEST, greatest_by_search, longest_by_words, WRONG_B

SQUARES = [4, 9, 16, 25, 36, 49]


class LongestTest(unittest.TestCase):
    def test_known_ones(self):
        told = [(2, [2, 1]), (3, [2, 1]), (12, [2, 1]), (13, [13, 5]), (28, [13, 5]), (29, [29, 7]), (60, [29, 7])]
        for b, longest in told:
            self.assertEqual(ask(("begin", 2), ("longest", b))[1], longest, b)

    def test_each_number(self):
        for b in [*range(62), GREATEST]:
            expected = longest_by_words(b) if 2 <= b <= 60 else [-22]
            self.assertEqual(ask(("begin", 2), ("longest", b))[1], expected, b)

    def test_of_like_ones_the_least(self):
        told = ask(("begin", 2), ("long", 29), ("long", 46), ("long", 53), ("long", 58), ("longest", 60))
        self.assertEqual(told[1:], [[7], [7], [7], [7], [29, 7]])

    def test_wrong_b_is_refused(self):
        for b in WRONG_B:
            self.assertEqual(ask(("begin", 2), ("longest", b))[1], [-22], b)

    def test_a_square_is_not_refused_and_does_not_count(self):
        for b in SQUARES:
            told = ask(("begin", 2), ("longest", b), ("longest", b - 1))
            self.assertEqual(told[1], told[2], b)
            self.assertNotIn(told[1][0], SQUARES, b)


class GreatestTest(unittest.TestCase):
    def test_known_ones(self):
        told = [
            (2, [2, 3]), (4, [2, 3]), (5, [5, 9]), (9, [5, 9]), (10, [10, 19]), (12, [10, 19]), (13, [13, 649]),
            (28, [13, 649]), (29, [29, 9801]), (45, [29, 9801]), (46, [46, 24335]), (52, [46, 24335]),
            (53, [53, 66249]), (60, [53, 66249]),
        ]
        for b, greatest in told:
            self.assertEqual(ask(("begin", 2), ("greatest", b))[1], greatest, b)

    def test_each_number(self):
        for b in [*range(62), GREATEST]:
            expected = greatest_by_search(b) if 2 <= b <= 60 else [-22]
            self.assertEqual(ask(("begin", 2), ("greatest", b))[1], expected, b)

    def test_wrong_b_is_refused(self):
        for b in WRONG_B:
            self.assertEqual(ask(("begin", 2), ("greatest", b))[1], [-22], b)

    def test_a_square_is_not_refused_and_does_not_count(self):
        for b in SQUARES:
            told = ask(("begin", 2), ("greatest", b), ("greatest", b - 1))
            self.assertEqual(told[1], told[2], b)
            self.assertNotIn(told[1][0], SQUARES, b)

    def test_the_number_is_that_of_its_least_pair(self):
        for b in range(2, 61):
            n, x = ask(("begin", 2), ("greatest", b))[1]
            self.assertEqual(ask(("begin", 2), ("least", n))[1][:2], [0, x], b)


class ApartTest(unittest.TestCase):
    def test_whatever_the_object_is_at(self):
        for own in [[("begin", 58)], [("begin", 3), "step"], [("begin", 53), "step", "step"]]:
            self.assertEqual(ask(*own, ("longest", 20), ("greatest", 50))[-2:], [[13, 5], [46, 24335]])

    def test_own_n_and_triple_stay_as_they_are(self):
        for name in ("longest", "greatest"):
            for b in [2, 4, 60, 0, 61, GREATEST]:
                told = ask(("begin", 58), "step", (name, b), "told", "diffs", "step")
                self.assertEqual(told[3:], [[58, 15, 2, -7, 1], [8, 6, -7, -6, -1, -6, 7, 6, 1], [0, 38, 5, -6]],
                                 (name, b))


if __name__ == "__main__":
    unittest.main()
