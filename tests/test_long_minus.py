"""Promise 4: long and minus."""

import unittest

from helper import ask, EVERY_N, GREATEST, minus_by_search, way_by_words, WRONG_N

# The object's own n and triple, which long and minus don't ask about: n of 2, one that ends at once, a long way.
OWN = [[("begin", 2)], [("begin", 3)], [("begin", 58), "step", "step"], [("begin", 2), "step"]]

WITH_MINUS_ONE = {
    2: [1, 1], 5: [2, 1], 10: [3, 1], 13: [18, 5], 17: [4, 1], 26: [5, 1], 29: [70, 13], 37: [6, 1],
    41: [32, 5], 50: [7, 1], 53: [182, 25], 58: [99, 13],
}


def asked_apart(call):
    """What the call answers, which has to be the same whatever the object's n and triple are."""
    told = [ask(*own, call)[-1] for own in OWN]
    if told != [told[0]] * len(told):
        raise AssertionError(f"{call} is not apart from the object: {told}")
    return told[0]


class LongTest(unittest.TestCase):
    def test_known_ones(self):
        for n, steps in [(2, 1), (3, 0), (5, 1), (13, 5), (19, 3), (29, 7), (46, 7), (53, 7), (58, 7), (60, 1)]:
            self.assertEqual(asked_apart(("long", n)), [steps], n)

    def test_a_way_of_one_triple_has_none(self):
        for n in [3, 8, 15, 24, 35, 48]:
            self.assertEqual(asked_apart(("long", n)), [0], n)

    def test_each_number(self):
        for n in [*range(62), GREATEST]:
            expected = [len(way_by_words(n)) - 1] if n in EVERY_N else [-22]
            self.assertEqual(asked_apart(("long", n)), expected, n)

    def test_wrong_n_is_refused(self):
        for n in WRONG_N:
            self.assertEqual(asked_apart(("long", n)), [-22], n)

    def test_as_many_steps_as_can_be_gone(self):
        for n in EVERY_N:
            steps = ask(("begin", n), ("long", n))[1][0]
            told = ask(("begin", n), *["step"] * steps, "done", "step")
            self.assertEqual(told[-2:], [[1], [-16]], n)
            self.assertNotIn([-16], told[:-1], n)


class MinusTest(unittest.TestCase):
    def test_each_number(self):
        for n in [*range(62), GREATEST]:
            expected = [-22]
            if n in EVERY_N:
                expected = [0] + WITH_MINUS_ONE[n] if n in WITH_MINUS_ONE else [-33]
            self.assertEqual(asked_apart(("minus", n)), expected, n)

    def test_each_n_by_search(self):
        for n in EVERY_N:
            found = minus_by_search(n)
            self.assertEqual(asked_apart(("minus", n)), [-33] if found is None else [0] + found, n)

    def test_the_first_one_of_the_way(self):
        for n in WITH_MINUS_ONE:
            pairs = [[a, b] for a, b, k in way_by_words(n) if k == -1]
            self.assertEqual(asked_apart(("minus", n)), [0] + pairs[0], n)

    def test_wrong_n_is_refused_ahead_of_a_missing_one(self):
        for n in WRONG_N:
            self.assertEqual(asked_apart(("minus", n)), [-22], n)

    def test_difference_of_one_alone_is_none(self):
        for n in [3, 8, 12, 30, 48, 56]:
            self.assertEqual(asked_apart(("minus", n)), [-33], n)


class ApartTest(unittest.TestCase):
    def test_own_n_and_triple_stay_as_they_are(self):
        for name in ("long", "minus"):
            for n in [2, 3, 46, 58, 0, 4, 61, GREATEST]:
                told = ask(("begin", 58), "step", (name, n), "told", "diffs", "step")
                self.assertEqual(told[3:], [[58, 15, 2, -7, 1], [8, 6, -7, -6, -1, -6, 7, 6, 1], [0, 38, 5, -6]],
                                 (name, n))


if __name__ == "__main__":
    unittest.main()
