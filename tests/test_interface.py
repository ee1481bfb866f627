"""The interface: what is handed in and what is given back."""

import contextlib
import io
import unittest

from helper import ask, EVERY_N, GREATEST, written
from roundway.triples import answers

MANY_CALLS = written([
    "step", ("begin", 58), "step", ("steps", 3), "taken", ("fits", 3), ("fits", 1), "all", "diffs",
    ("least", 53), ("least", 4), ("begin", 61), ("steps", 61), ("fits", 0), ("begin", 3), "step",
])


class WrittenTest(unittest.TestCase):
    def test_a_list_as_it_is_handed_in_and_given_back(self):
        calls = [1, 0, 2, 3, 4, 1, 2, 0, 5, 6, 1, 1, 7, 3, 2, 61]
        told = [
            1, -11, 1, 0, 2, 1, -1, 1, 1, 4, 0, 1, 1, -1, 5, 2, 1, 1, 3, 2,
            3, 2, -1, 1, 4, 0, 3, 2, 1, 1, -16, 3, 0, 2, 1, 1, -22,
        ]
        self.assertEqual(answers(calls), told)

    def test_an_argument_like_a_call_is_no_call(self):
        self.assertEqual(answers([2, 0, 0, 2, 4, 0, 7, 7, 4, 1]), [1, -11, 1, 0, 1, -22, 3, 0, 8, 3, 1, 1])

    def test_one_call_alone(self):
        self.assertEqual(answers([0, 2]), [1, 0])
        self.assertEqual(answers([5]), [1, -11])

    def test_eighty_calls(self):
        self.assertEqual(ask(("begin", 58), *["taken"] * 79)[1:], [[4, -42]] * 79)
        self.assertEqual(ask(("begin", 58), *["all"] * 79)[79][-2:], [19603, 2574])

    def test_refusals_stand_alone(self):
        refused = [(name, GREATEST) for name in ("steps", "fits", "least", "begin")]
        told = ask(("begin", 3), "step", *refused)
        self.assertEqual(told, [[0], [-16], [-22], [-22], [-22], [-22]])


class HandedInTest(unittest.TestCase):
    def test_the_list_is_as_it_was(self):
        calls = list(MANY_CALLS)
        answers(calls)
        self.assertEqual(calls, MANY_CALLS)

    def test_not_changed_for_a_while_either(self):
        class Watched(list):
            def refuse(self, *arguments):
                raise AssertionError("the list that was handed in is changed")

            append = clear = extend = insert = pop = remove = reverse = sort = refuse
            __setitem__ = __delitem__ = __iadd__ = __imul__ = refuse

        self.assertEqual(answers(Watched(MANY_CALLS)), answers(list(MANY_CALLS)))

    def test_what_is_given_back_is_another_list_each_time(self):
        calls = [0, 2]
        first = answers(calls)
        self.assertIsNot(first, calls)
        first.append(5)
        self.assertEqual(answers(calls), [1, 0])


class NothingKeptTest(unittest.TestCase):
    def test_a_begin_is_not_known_the_next_time(self):
        self.assertEqual(ask(("begin", 2), "step"), [[0], [0, 3, 2, 1]])
        self.assertEqual(ask("step", "all", ("least", 2)), [[-11], [-11], [-11]])

    def test_the_same_list_is_answered_the_same(self):
        before = answers(MANY_CALLS)
        answers(written([("begin", 46), "step", "step"]))
        self.assertEqual(answers(MANY_CALLS), before)


class GivenBackTest(unittest.TestCase):
    def test_a_list_of_whole_numbers(self):
        for n in EVERY_N:
            told = answers(written([("begin", n)]) + MANY_CALLS)
            self.assertIs(type(told), list)
            self.assertEqual({type(number) for number in told}, {int})

    def test_nothing_is_printed(self):
        out, err = io.StringIO(), io.StringIO()
        with contextlib.redirect_stdout(out), contextlib.redirect_stderr(err):
            answers(MANY_CALLS)
        self.assertEqual((out.getvalue(), err.getvalue()), ("", ""))


if __name__ == "__main__":
    unittest.main()
