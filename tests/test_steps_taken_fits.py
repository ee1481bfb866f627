"""Promise 2: steps, taken and fits."""

import unittest

from helper import ask, EVERY_N, GREATEST, taken_by_words, triples_by_words, way_by_words


class StepsTest(unittest.TestCase):
    def test_none_is_the_first(self):
        self.assertEqual(ask(("begin", 2), ("steps", 0))[1], [0, 1, 1, -1])
        self.assertEqual(ask(("begin", 46), ("steps", 0))[1], [0, 7, 1, 3])

    def test_one(self):
        self.assertEqual(ask(("begin", 2), ("steps", 1))[1], [0, 3, 2, 1])
        self.assertEqual(ask(("begin", 53), ("steps", 1))[1], [0, 22, 3, 7])

    def test_behind_a_difference_of_one(self):
        told = ask(("begin", 2), ("steps", 2), ("steps", 3), ("steps", 4))
        self.assertEqual(told[1:], [[0, 7, 5, -1], [0, 17, 12, 1], [0, 41, 29, -1]])
        self.assertEqual(ask(("begin", 3), ("steps", 1), ("steps", 2))[1:], [[0, 7, 4, 1], [0, 26, 15, 1]])

    def test_each_count_for_each_n(self):
        for n in EVERY_N:
            told = ask(("begin", n), *[("steps", j) for j in range(61)])
            self.assertEqual(told[1:], [[0, a, b, k] for a, b, k in triples_by_words(n, 61)], n)

    def test_sixty_steps_are_not_rounded(self):
        # For 3 each step is times 2 and the root of 3, so the pair can be told without the way.
        x, y = 2, 1
        for turn in range(60):
            x, y = 2 * x + 3 * y, x + 2 * y
        self.assertEqual(ask(("begin", 3), ("steps", 60))[1], [0, x, y, 1])
        self.assertGreater(x, 2 ** 100)

    def test_more_than_sixty_are_refused(self):
        for j in [61, 62, 1000, GREATEST]:
            self.assertEqual(ask(("begin", 2), ("steps", j)), [[0], [-22]], j)

    def test_own_triple_stays_as_it_is(self):
        for j in [0, 1, 7, 60, 61]:
            told = ask(("begin", 58), "step", ("steps", j), "taken", "step")
            self.assertEqual(told[3:], [[10, 42], [0, 38, 5, -6]], j)

    def test_counted_from_the_first_wherever_the_object_is(self):
        told = ask(("begin", 58), ("steps", 2), "step", ("steps", 2), "step", "step", ("steps", 2))
        self.assertEqual([told[1], told[3], told[6]], [[0, 38, 5, -6]] * 3)

    def test_steps_never_end_at_the_last(self):
        self.assertEqual(ask(("begin", 2), "step", ("steps", 2), "step")[2:], [[0, 7, 5, -1], [-16]])


class TakenTest(unittest.TestCase):
    def test_at_the_first_triple(self):
        self.assertEqual(ask(("begin", 2), "taken")[1], [1, -1])
        self.assertEqual(ask(("begin", 7), "taken")[1], [3, 2])
        self.assertEqual(ask(("begin", 13), "taken")[1], [2, -9])

    def test_after_some_steps(self):
        told = ask(("begin", 58), "taken", "step", "taken", "step", "taken", "step", "taken")
        self.assertEqual(told[1::2], [[4, -42], [10, 42], [8, 6], [8, 6]])

    def test_at_the_last_triple(self):
        self.assertEqual(ask(("begin", 3), "taken")[1], [2, 1])
        self.assertEqual(ask(("begin", 2), "step", "taken")[2], [1, -1])

    def test_of_two_that_are_as_near_the_lesser(self):
        self.assertEqual(ask(("begin", 29), "taken")[1], [3, -20])
        self.assertEqual(ask(("begin", 53), "taken")[1], [5, -28])
        self.assertEqual(ask(("begin", 58), "taken")[1], [4, -42])

    def test_along_the_way_of_each_n(self):
        for n in EVERY_N:
            way = way_by_words(n)
            told = ask(("begin", n), "taken", *["step", "taken"] * (len(way) - 1))
            taken = [taken_by_words(n, triple) for triple in way]
            self.assertEqual(told[1::2], [[m, m * m - n] for m in taken], n)

    def test_changes_nothing(self):
        self.assertEqual(ask(("begin", 58), "taken", "taken", "step")[1:], [[4, -42], [4, -42], [0, 15, 2, -7]])


class FitsTest(unittest.TestCase):
    def test_both_answers(self):
        told = ask(("begin", 58), *[("fits", m) for m in range(1, 17)])
        self.assertEqual([told[m] for m in range(1, 17)], [[1] if m in (4, 10, 16) else [0] for m in range(1, 17)])

    def test_the_edges(self):
        told = ask(("begin", 7), ("fits", 0), ("fits", 1), ("fits", 1000), ("fits", 1001), ("fits", GREATEST))
        self.assertEqual(told[1:], [[-22], [1], [0], [-22], [-22]])
        self.assertEqual(ask(("begin", 7), ("fits", 2), ("fits", 999))[1:], [[0], [1]])
        self.assertEqual(ask(("begin", 2), ("fits", 1000))[1], [1])

    def test_a_difference_below_none(self):
        told = ask(("begin", 58), "step", *[("fits", m) for m in range(1, 12)])
        self.assertEqual(told[2:], [[0], [0], [1], [0], [0], [0], [0], [0], [0], [1], [0]])
        self.assertEqual(ask(("begin", 19), ("fits", 1), ("fits", 2), ("fits", 3))[1:], [[0], [1], [0]])

    def test_m_may_be_above_twice_n(self):
        self.assertEqual(ask(("begin", 7), ("fits", 15), ("fits", 16))[1:], [[1], [0]])

    def test_along_the_way_of_each_n(self):
        for n in EVERY_N:
            for count, (a, b, k) in enumerate(way_by_words(n)):
                told = ask(("begin", n), *["step"] * count, *[("fits", m) for m in range(1, 31)])
                expected = [[1] if (a + m * b) % abs(k) == 0 else [0] for m in range(1, 31)]
                self.assertEqual(told[1 + count:], expected, (n, count))

    def test_changes_nothing(self):
        self.assertEqual(ask(("begin", 58), ("fits", 10), ("fits", 0), "taken", "step")[3:],
                         [[4, -42], [0, 15, 2, -7]])


if __name__ == "__main__":
    unittest.main()
