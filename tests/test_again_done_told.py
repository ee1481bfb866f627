"""Promise 1: again, done and told."""

import unittest

from helper import ask, EVERY_N, GREATEST, WRONG_N, taken_by_words, way_by_words

# Whatever is asked here, refused or not, the object stays as it was.
CHANGES_NOTHING = [
    ("begin", 0), ("begin", 4), ("begin", 49), ("begin", 61), ("begin", GREATEST),
    ("steps", 0), ("steps", 5), ("steps", 60), ("steps", 61), ("steps", GREATEST), "taken",
    ("fits", 0), ("fits", 1), ("fits", 1000), ("fits", 1001), "all", "diffs", "short", "done", "told",
    ("least", 46), ("least", 4), ("long", 46), ("long", 61), ("longest", 60), ("longest", 1),
    ("greatest", 60), ("greatest", 61), ("minus", 41), ("minus", 46), ("minus", 36),
]


class AgainTest(unittest.TestCase):
    def test_at_the_first_triple(self):
        self.assertEqual(ask(("begin", 58), "again", "told"), [[0], [0, 8, 1, 6], [58, 8, 1, 6, 0]])

    def test_on_the_way(self):
        told = ask(("begin", 58), "step", "step", "again", "told", "step", "told")
        self.assertEqual(told[3:], [[0, 8, 1, 6], [58, 8, 1, 6, 0], [0, 15, 2, -7], [58, 15, 2, -7, 1]])

    def test_at_the_end(self):
        told = ask(("begin", 2), "step", "step", "done", "again", "done", "told", "step", "step")
        self.assertEqual(told[2:], [[-16], [1], [0, 1, 1, -1], [0], [2, 1, 1, -1, 0], [0, 3, 2, 1], [-16]])

    def test_from_every_triple_of_each_n(self):
        for n in EVERY_N:
            way = way_by_words(n)
            for count in range(len(way)):
                told = ask(("begin", n), *["step"] * count, "again", "told", "taken", *["step"] * len(way), "told")
                told = told[1 + count:]
                m = taken_by_words(n, way[0])
                self.assertEqual(told[:3], [[0, *way[0]], [n, *way[0], 0], [m, m * m - n]], (n, count))
                self.assertEqual(told[3:-2], [[0, *triple] for triple in way[1:]], (n, count))
                self.assertEqual(told[-2:], [[-16], [n, *way[-1], len(way) - 1]], (n, count))

    def test_taken_and_fits_go_on_from_the_first(self):
        told = ask(("begin", 58), "step", "taken", ("fits", 3), "again", "taken", ("fits", 3), ("fits", 4))
        self.assertEqual(told[2:], [[10, 42], [1], [0, 8, 1, 6], [4, -42], [0], [1]])

    def test_twice_is_as_once(self):
        told = ask(("begin", 46), "step", "again", "again", "told", "step", "told")
        self.assertEqual(told[2:], [[0, 7, 1, 3], [0, 7, 1, 3], [46, 7, 1, 3, 0], [0, 34, 5, 6], [46, 34, 5, 6, 1]])

    def test_of_the_newest_n_that_was_not_refused(self):
        told = ask(("begin", 58), ("begin", 2), "step", ("begin", 9), "again", "told")
        self.assertEqual(told[3:], [[-22], [0, 1, 1, -1], [2, 1, 1, -1, 0]])


class DoneTest(unittest.TestCase):
    def test_along_the_way_of_each_n(self):
        for n in EVERY_N:
            way = way_by_words(n)
            told = ask(("begin", n), "done", *["step", "done"] * (len(way) - 1))
            self.assertEqual(told[1::2], [[0]] * (len(way) - 1) + [[1]], n)

    def test_first_triple_that_is_the_last(self):
        for n in [3, 8, 15, 24, 35, 48]:
            self.assertEqual(ask(("begin", n), "done"), [[0], [1]], n)

    def test_minus_one_is_not_done(self):
        for n in [2, 5, 10, 17, 26, 37, 50]:
            self.assertEqual(ask(("begin", n), "done", "step", "done")[1::2], [[0], [1]], n)

    def test_steps_behind_the_last_change_nothing(self):
        self.assertEqual(ask(("begin", 2), "step", "step", ("steps", 2), "done")[-1], [1])


class ToldTest(unittest.TestCase):
    def test_along_the_way_of_each_n(self):
        for n in EVERY_N:
            way = way_by_words(n)
            told = ask(("begin", n), "told", *["step", "told"] * (len(way) - 1))
            self.assertEqual(told[1::2], [[n, *triple, count] for count, triple in enumerate(way)], n)

    def test_refused_step_does_not_count(self):
        self.assertEqual(ask(("begin", 2), "step", "step", "step", "told")[-1], [2, 3, 2, 1, 1])
        self.assertEqual(ask(("begin", 3), "step", "told")[-1], [3, 2, 1, 1, 0])

    def test_refused_begin_leaves_all_as_it_was(self):
        for n in WRONG_N:
            told = ask(("begin", 58), "step", "step", ("begin", n), "told", "step", "told")
            self.assertEqual(told[4:], [[58, 38, 5, -6, 2], [0, 99, 13, -1], [58, 99, 13, -1, 3]], n)

    def test_begin_counts_anew(self):
        told = ask(("begin", 58), "step", "step", ("begin", 53), "told", "step", "told", ("begin", 53), "told")
        self.assertEqual(told[4::2], [[53, 7, 1, -4, 0], [53, 22, 3, 7, 1], [53, 7, 1, -4, 0]])

    def test_again_counts_anew(self):
        told = ask(("begin", 58), "step", "step", "again", "step", "told")
        self.assertEqual(told[-1], [58, 15, 2, -7, 1])

    def test_nothing_else_changes_it(self):
        for call in CHANGES_NOTHING:
            for count, triple in enumerate(way_by_words(58)):
                told = ask(("begin", 58), *["step"] * count, call, "told")
                self.assertEqual(told[-1], [58, *triple, count], (call, count))

    def test_all_of_them_together_change_nothing(self):
        told = ask(("begin", 58), "step", *CHANGES_NOTHING, "told", "step", "told")
        self.assertEqual(told[-3:], [[58, 15, 2, -7, 1], [0, 38, 5, -6], [58, 38, 5, -6, 2]])

    def test_refusals_ahead_of_a_begin_do_not_count(self):
        self.assertEqual(ask("step", "again", ("begin", 4), "step", ("begin", 5), "told")[-1], [5, 2, 1, -1, 0])


if __name__ == "__main__":
    unittest.main()
