"""What the document says that holds, over every n; and the corners that it names."""

import unittest

from helper import ask, EVERY_N, GREATEST, least_by_search, minus_by_search


def asked_way(n):
    pairs, differences = ask(("begin", n), "all", "diffs")[1:]
    if pairs[0] != differences[0] or len(pairs) != 1 + 2 * pairs[0] or len(differences) != 1 + pairs[0]:
        raise AssertionError(f"the counts of {n} are not as told")
    return list(zip(pairs[1::2], pairs[2::2], differences[1:]))


def asked_triples(n):
    return [tuple(told[1:]) for told in ask(("begin", n), *[("steps", j) for j in range(61)])[1:]]


class HoldsTest(unittest.TestCase):
    def test_each_difference_is_that_of_its_pair(self):
        for n in EVERY_N:
            for a, b, k in asked_way(n) + asked_triples(n):
                self.assertEqual(a * a - n * b * b, k, n)

    def test_every_division_is_without_a_rest(self):
        for n in EVERY_N:
            way = asked_way(n)
            told = ask(("begin", n), "taken", *["step", "taken"] * (len(way) - 1))
            for count in range(len(way) - 1):
                a, b, k = way[count]
                m = told[1 + 2 * count][0]
                x, y, difference = way[count + 1]
                self.assertEqual((a * m + n * b, a + b * m), (x * abs(k), y * abs(k)), n)
                self.assertEqual(m * m - n, difference * k, n)

    def test_something_can_be_taken_that_fits(self):
        for n in EVERY_N:
            for count in range(len(asked_way(n))):
                m, rest = ask(("begin", n), *["step"] * count, "taken")[-1]
                self.assertTrue(1 <= m <= 2 * n, n)
                self.assertEqual(rest, m * m - n, n)
                self.assertEqual(ask(("begin", n), *["step"] * count, ("fits", m))[-1], [1], n)

    def test_differences_stay_small(self):
        for n in EVERY_N:
            for a, b, k in asked_way(n) + asked_triples(n):
                self.assertLessEqual(k * k, 4 * n, n)

    def test_none_but_the_last_is_one(self):
        for n in EVERY_N:
            differences = [k for a, b, k in asked_way(n)]
            self.assertEqual(differences[-1], 1, n)
            self.assertNotIn(1, differences[:-1], n)

    def test_all_numbers_grow(self):
        for n in EVERY_N:
            for triples in (asked_way(n), asked_triples(n)):
                for before, behind in zip(triples, triples[1:]):
                    self.assertLess(before[0], behind[0], n)
                    self.assertLess(before[1], behind[1], n)

    def test_the_last_pair_is_the_least(self):
        for n in EVERY_N:
            self.assertEqual(list(asked_way(n)[-1][:2]), least_by_search(n), n)

    def test_if_some_pair_has_minus_one_the_way_comes_by_one(self):
        for n in EVERY_N:
            pairs = [[a, b] for a, b, k in asked_way(n) if k == -1]
            found = minus_by_search(n)
            self.assertEqual(pairs, [] if found is None else [found], n)
            self.assertEqual(ask(("begin", 3), ("minus", n))[1], [-33] if found is None else [0] + found, n)

    def test_a_pair_of_minus_one_put_together_with_itself_is_the_least(self):
        count = 0
        for n in EVERY_N:
            minus, least = ask(("begin", 3), ("minus", n), ("least", n))[1:]
            if minus != [-33]:
                a, b = minus[1:]
                self.assertEqual([0, a * a + n * b * b, 2 * a * b], least, n)
                count += 1
        self.assertEqual(count, 12)

    def test_the_calls_agree_on_each_way(self):
        for n in EVERY_N:
            way = asked_way(n)
            told = ask(("begin", n), ("long", n), ("least", n), *["step"] * (len(way) - 1), "told", "done", "step")
            self.assertEqual(told[1:3], [[len(way) - 1], [0, *way[-1][:2]]], n)
            self.assertEqual(told[-3:], [[n, *way[-1], len(way) - 1], [1], [-16]], n)


class CornersTest(unittest.TestCase):
    def test_two(self):
        told = ask(("begin", 2), "taken", ("fits", 1), "step", "step", "all", "diffs", ("least", 2))
        self.assertEqual(told, [[0], [1, -1], [1], [0, 3, 2, 1], [-16], [2, 1, 1, 3, 2], [2, -1, 1], [0, 3, 2]])
        told = ask(("begin", 2), "done", "told", "short", ("long", 2), ("minus", 2), ("longest", 2), ("greatest", 2))
        self.assertEqual(told[1:], [[0], [2, 1, 1, -1, 0], [0, 1, 1, -1], [1], [0, 1, 1], [2, 1], [2, 3]])

    def test_one_that_ends_at_once(self):
        for a in range(2, 8):
            n = a * a - 1
            told = ask(("begin", n), "all", "diffs", "step", ("least", n))
            self.assertEqual(told[1:], [[1, a, 1], [1, 1], [-16], [0, a, 1]], n)
            told = ask(("begin", n), "done", "told", "again", "short", ("long", n), ("minus", n))
            self.assertEqual(told[1:], [[1], [n, a, 1, 1, 0], [0, a, 1, 1], [0, a, 1, 1], [0], [-33]], n)

    def test_one_above_a_square(self):
        for a in range(1, 8):
            n = a * a + 1
            x, y = 2 * a * a + 1, 2 * a
            told = ask(("begin", n), "diffs", "taken", "step", "step", ("least", n))
            self.assertEqual(told[1:], [[2, -1, 1], [a, -1], [0, x, y, 1], [-16], [0, x, y]], n)
            told = ask(("begin", n), "done", "step", "done", "told", "short", ("long", n), ("minus", n))
            self.assertEqual(told[3:], [[1], [n, x, y, 1, 1], [0, a, 1, -1], [1], [0, a, 1]], n)

    def test_long_ways(self):
        for n, last in [(58, [19603, 2574]), (53, [66249, 9100]), (46, [24335, 3588])]:
            told = ask(("begin", n), *["step"] * 8, "all")
            self.assertEqual(told[7], [0] + last + [1], n)
            self.assertEqual(told[8], [-16], n)
            self.assertEqual([told[9][0], told[9][-2:]], [8, last], n)
        for n, short, minus in [(58, [99, 13, -1], [0, 99, 13]), (53, [7, 1, -4], [0, 182, 25]),
                                (46, [156, 23, 2], [-33])]:
            told = ask(("begin", n), *["step"] * 8, "told", "again", "short", ("long", n), ("minus", n))
            self.assertEqual(told[9][4], 7, n)
            self.assertEqual(told[11:], [[0] + short, [7], minus], n)

    def test_sixty_steps(self):
        for n in EVERY_N:
            told = ask(("begin", n), ("steps", 60), ("steps", 61), ("steps", GREATEST))
            self.assertEqual([len(part) for part in told], [1, 4, 1, 1], n)
            self.assertEqual(told[2:], [[-22], [-22]], n)

    def test_two_that_are_as_near(self):
        for n, lesser, greater in [(29, 3, 7), (53, 5, 9), (58, 4, 10)]:
            self.assertEqual(n - lesser * lesser, greater * greater - n)
            told = ask(("begin", n), ("fits", lesser), ("fits", greater), "taken")
            self.assertEqual(told[1:], [[1], [1], [lesser, lesser * lesser - n]], n)


if __name__ == "__main__":
    unittest.main()
