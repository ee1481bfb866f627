"""Promise 1: begin and step, and what is refused ahead of a begin."""

import unittest

from helper import ask, EVERY_N, GREATEST, WRONG_N, way_by_words

WAY_OF_58 = [
    [0, 15, 2, -7], [0, 38, 5, -6], [0, 99, 13, -1], [0, 1546, 203, -6],
    [0, 2993, 393, 7], [0, 7532, 989, 6], [0, 19603, 2574, 1],
]

AHEAD_OF_BEGIN = [
    "step", ("steps", 0), ("steps", 60), ("steps", 61), ("steps", GREATEST), "taken",
    ("fits", 1), ("fits", 0), ("fits", 1001), "all", "diffs", ("least", 2), ("least", 4), ("least", GREATEST),
    ("long", 2), ("long", 0), ("long", 49), ("long", GREATEST), "short",
    ("longest", 2), ("longest", 60), ("longest", 61), ("longest", GREATEST),
    ("greatest", 2), ("greatest", 60), ("greatest", 1), ("greatest", GREATEST),
    ("minus", 2), ("minus", 3), ("minus", 0), ("minus", 4), ("minus", GREATEST), "again", "done", "told",
]


class BeginTest(unittest.TestCase):
    def test_every_n_as_told_is_taken(self):
        for n in EVERY_N:
            self.assertEqual(ask(("begin", n)), [[0]], n)

    def test_the_triple_is_the_first(self):
        for n in EVERY_N:
            a, b, k = way_by_words(n)[0]
            self.assertEqual(ask(("begin", n), ("steps", 0)), [[0], [0, a, b, k]], n)

    def test_wrong_n_is_refused(self):
        for n in WRONG_N:
            self.assertEqual(ask(("begin", n)), [[-22]], n)

    def test_refused_begin_is_no_begin(self):
        for n in WRONG_N:
            self.assertEqual(ask(("begin", n), "step", "diffs"), [[-22], [-11], [-11]], n)

    def test_refused_begin_changes_nothing(self):
        for n in WRONG_N:
            told = ask(("begin", 58), "step", ("begin", n), "step", "diffs", ("steps", 1))
            self.assertEqual(told[1:4], [[0, 15, 2, -7], [-22], [0, 38, 5, -6]], n)
            self.assertEqual(told[4:], [[8, 6, -7, -6, -1, -6, 7, 6, 1], [0, 15, 2, -7]], n)

    def test_begin_may_come_again(self):
        told = ask(("begin", 58), "step", ("begin", 2), "step", "all", ("begin", 58), "step")
        self.assertEqual(told, [[0], [0, 15, 2, -7], [0], [0, 3, 2, 1], [2, 1, 1, 3, 2], [0], [0, 15, 2, -7]])

    def test_begin_again_with_the_same_n_is_at_the_first(self):
        self.assertEqual(ask(("begin", 58), "step", "step", ("begin", 58), "step")[-1], [0, 15, 2, -7])

    def test_begin_may_come_behind_refused_ones(self):
        self.assertEqual(ask("step", ("begin", 4), "step", ("begin", 2), "step"),
                         [[-11], [-22], [-11], [0], [0, 3, 2, 1]])


class AheadOfBeginTest(unittest.TestCase):
    def test_each_call_is_refused(self):
        for call in AHEAD_OF_BEGIN:
            self.assertEqual(ask(call), [[-11]], call)

    def test_each_call_is_refused_behind_a_refused_begin(self):
        for call in AHEAD_OF_BEGIN:
            for n in WRONG_N:
                self.assertEqual(ask(("begin", n), call), [[-22], [-11]], (call, n))

    def test_each_call_is_answered_otherwise_behind_a_begin(self):
        for call in AHEAD_OF_BEGIN:
            self.assertNotEqual(ask(call, ("begin", 2), call)[2], [-11], call)

    def test_all_of_them_one_behind_another_change_nothing(self):
        told = ask(*AHEAD_OF_BEGIN, ("begin", 2), "step")
        self.assertEqual(told, [[-11]] * len(AHEAD_OF_BEGIN) + [[0], [0, 3, 2, 1]])


class StepTest(unittest.TestCase):
    def test_whole_way_of_58(self):
        self.assertEqual(ask(("begin", 58), *["step"] * 7)[1:], WAY_OF_58)

    def test_whole_way_of_each_n(self):
        for n in EVERY_N:
            way = way_by_words(n)
            told = ask(("begin", n), *["step"] * (len(way) - 1))
            self.assertEqual(told[1:], [[0, a, b, k] for a, b, k in way[1:]], n)

    def test_step_behind_the_last_is_refused_and_changes_nothing(self):
        for n in EVERY_N:
            way = way_by_words(n)
            told = ask(("begin", n), *["step"] * len(way), "taken", "step", "taken", ("steps", len(way) - 1))
            self.assertEqual(told[len(way)], [-16], n)
            self.assertEqual(told[len(way) + 2], [-16], n)
            self.assertEqual(told[len(way) + 1], told[len(way) + 3], n)
            self.assertEqual(told[len(way) + 4], [0] + list(way[-1]), n)

    def test_one_that_ends_at_once_has_no_step(self):
        for n in [3, 8, 15, 24, 35, 48]:
            self.assertEqual(ask(("begin", n), "step", "step", "diffs"), [[0], [-16], [-16], [1, 1]], n)

    def test_begin_behind_the_last_walks_anew(self):
        self.assertEqual(ask(("begin", 2), "step", "step", ("begin", 2), "step"),
                         [[0], [0, 3, 2, 1], [-16], [0], [0, 3, 2, 1]])

    def test_difference_of_minus_one_is_not_the_end(self):
        self.assertEqual(ask(("begin", 5), ("steps", 0), "step"), [[0], [0, 2, 1, -1], [0, 9, 4, 1]])


if __name__ == "__main__":
    unittest.main()
