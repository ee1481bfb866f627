"""The interface: what is handed in and what is given back."""

import contextlib
import io
import unittest

from helper import ask, EVERY_N, GREATEST, NUMBERS, split_answers, triples_by_words, written
from roundway.triples import answers

MANY_CALLS = written([
    "step", ("begin", 58), "step", ("steps", 3), "taken", ("fits", 3), ("fits", 1), "all", "diffs",
    ("least", 53), ("least", 4), ("begin", 61), ("steps", 61), ("fits", 0), "told", "short", "again", "done",
    ("long", 53), ("long", 4), ("longest", 60), ("longest", 1), ("greatest", 60), ("greatest", 61),
    ("minus", 13), ("minus", 14), ("minus", 16), "step", "told", ("begin", 3), "step", "done", "told",
])

# All sixteen calls, ahead of a begin and behind one, with what is answered to each.
SIXTEEN = [
    ("told", [-11]), ("done", [-11]), (("minus", 2), [-11]), (("begin", 46), [0]), ("told", [46, 7, 1, 3, 0]),
    ("step", [0, 34, 5, 6]), ("done", [0]), ("taken", [4, -30]), (("fits", 4), [1]), (("fits", 9), [0]),
    ("told", [46, 34, 5, 6, 1]), (("steps", 3), [0, 156, 23, 2]), ("short", [0, 156, 23, 2]),
    (("longest", 60), [29, 7]), ("diffs", [8, 3, 6, -5, 2, -5, 6, 3, 1]), (("greatest", 60), [53, 66249]),
    (("least", 58), [0, 19603, 2574]), (("minus", 58), [0, 99, 13]), (("minus", 46), [-33]), (("long", 46), [7]),
    ("step", [0, 61, 9, -5]), ("told", [46, 61, 9, -5, 2]), ("again", [0, 7, 1, 3]), ("told", [46, 7, 1, 3, 0]),
    ("taken", [8, 18]), (("begin", 12), [0]), ("all", [2, 3, 1, 7, 2]), ("short", [0, 7, 2, 1]),
    ("step", [0, 7, 2, 1]), ("done", [1]), ("step", [-16]), ("told", [12, 7, 2, 1, 1]), (("begin", 16), [-22]),
    (("long", 16), [-22]), (("longest", 61), [-22]), (("greatest", 1), [-22]), (("minus", 49), [-22]),
    (("least", 61), [-22]), (("steps", 61), [-22]), (("fits", 0), [-22]), ("told", [12, 7, 2, 1, 1]),
    ("again", [0, 3, 1, -3]), ("done", [0]), ("told", [12, 3, 1, -3, 0]),
]


class WrittenTest(unittest.TestCase):
    def test_a_list_as_it_is_handed_in_and_given_back(self):
        calls = [1, 0, 2, 3, 4, 1, 2, 0, 5, 6, 1, 1, 7, 3, 2, 61]
        told = [
            1, -11, 1, 0, 2, 1, -1, 1, 1, 4, 0, 1, 1, -1, 5, 2, 1, 1, 3, 2,
            3, 2, -1, 1, 4, 0, 3, 2, 1, 1, -16, 3, 0, 2, 1, 1, -22,
        ]
        self.assertEqual(answers(calls), told)

    def test_the_later_calls_as_they_are_handed_in_and_given_back(self):
        calls = [15, 0, 2, 15, 8, 3, 9, 10, 13, 11, 5, 12, 10, 12, 3, 1, 14, 13, 14, 15, 8, 4]
        told = [
            1, -11, 1, 0, 5, 2, 1, 1, -1, 0, 1, 0, 4, 0, 1, 1, -1, 2, 13, 5, 2, 5, 9, 3, 0, 3, 1, 1, -33,
            4, 0, 3, 2, 1, 1, 1, 4, 0, 1, 1, -1, 1, 0, 5, 2, 1, 1, -1, 0, 1, -22,
        ]
        self.assertEqual(answers(calls), told)

    def test_all_sixteen_calls_in_one_list(self):
        calls = [call for call, told in SIXTEEN]
        names = {call if isinstance(call, str) else call[0] for call in calls}
        self.assertEqual(names, set(NUMBERS))
        for (call, expected), told in zip(SIXTEEN, ask(*calls)):
            self.assertEqual(told, expected, call)

    def test_an_argument_like_a_call_is_no_call(self):
        self.assertEqual(answers([2, 0, 0, 2, 4, 0, 7, 7, 4, 1]), [1, -11, 1, 0, 1, -22, 3, 0, 8, 3, 1, 1])
        self.assertEqual(answers([8, 0, 10, 0, 11, 0, 12, 0, 14, 0, 2, 8, 15, 10, 0, 12, 13, 11, 8, 14]),
                         [1, -11, 1, -11, 1, -11, 1, -11, 1, -11, 1, 0, 1, 0, 1, -22, 3, 0, 18, 5, 2, 5, 9, 1, 0])

    def test_one_call_alone(self):
        self.assertEqual(answers([0, 2]), [1, 0])
        for call in [1, 3, 5, 6, 9, 13, 14, 15]:
            self.assertEqual(answers([call]), [1, -11], call)

    def test_eighty_calls(self):
        self.assertEqual(ask(("begin", 58), *["taken"] * 79)[1:], [[4, -42]] * 79)
        self.assertEqual(ask(("begin", 58), *["all"] * 79)[79][-2:], [19603, 2574])
        told = ask(("begin", 58), *["step"] * 7, *["told", "again", "step"] * 24)
        self.assertEqual(len(told), 80)
        self.assertEqual(told[8::3], [[58, 19603, 2574, 1, 7]] + [[58, 15, 2, -7, 1]] * 23)

    def test_the_longest_work_many_times(self):
        self.assertEqual(ask(("begin", 2), *[("longest", 60)] * 79)[1:], [[29, 7]] * 79)
        self.assertEqual(ask(("begin", 2), *[("greatest", 60)] * 79)[1:], [[53, 66249]] * 79)
        last = triples_by_words(58, 61)[60]
        self.assertEqual(ask(("begin", 58), *[("steps", 60)] * 79)[1:], [[0, *last]] * 79)
        told = ask(("begin", 58), *[("longest", 60), ("greatest", 60), ("steps", 60)] * 26, "told")
        self.assertEqual(told[1:], [[29, 7], [53, 66249], [0, *last]] * 26 + [[58, 8, 1, 6, 0]])

    def test_two_hundred_numbers_at_most_eighty_calls(self):
        calls = written([("begin", 46), *[("steps", 1), "step", "told"] * 26, "again"])
        self.assertLessEqual(len(calls), 200)
        told = split_answers(answers(calls))
        self.assertEqual((len(told), told[-2], told[-1]), (80, [46, 24335, 3588, 1, 7], [0, 7, 1, 3]))

    def test_refusals_stand_alone(self):
        names = ("steps", "fits", "least", "begin", "long", "longest", "greatest", "minus")
        told = ask(("begin", 3), "step", *[(name, GREATEST) for name in names], ("minus", 3))
        self.assertEqual(told, [[0], [-16]] + [[-22]] * 8 + [[-33]])


class HandedInTest(unittest.TestCase):
    def test_the_list_is_as_it_was(self):
        calls = list(MANY_CALLS)
        answers(calls)
        self.assertEqual(calls, MANY_CALLS)

    def test_not_changed_for_a_while_either(self):
        class Watched(list):
            def refuse(self, *arguments):
                raise AssertionError("the list that was handed in is changed")

            append = clear = extend = insert = pop = remove = reverse = sort = refuse
            __setitem__ = __delitem__ = __iadd__ = __imul__ = refuse

        self.assertEqual(answers(Watched(MANY_CALLS)), answers(list(MANY_CALLS)))

    def test_what_is_given_back_is_another_list_each_time(self):
        calls = [0, 2]
        first = answers(calls)
        self.assertIsNot(first, calls)
        first.append(5)
        self.assertEqual(answers(calls), [1, 0])


class NothingKeptTest(unittest.TestCase):
    def test_a_begin_is_not_known_the_next_time(self):
        self.assertEqual(ask(("begin", 2), "step"), [[0], [0, 3, 2, 1]])
        self.assertEqual(ask("step", "all", ("least", 2)), [[-11], [-11], [-11]])
        self.assertEqual(ask("told", "again", "done", "short", ("longest", 60)), [[-11]] * 5)

    def test_steps_are_not_counted_on_the_next_time(self):
        self.assertEqual(ask(("begin", 58), "step", "told")[-1], [58, 15, 2, -7, 1])
        self.assertEqual(ask(("begin", 58), "told")[-1], [58, 8, 1, 6, 0])

    def test_the_same_list_is_answered_the_same(self):
        before = answers(MANY_CALLS)
        answers(written([("begin", 46), "step", "step"]))
        self.assertEqual(answers(MANY_CALLS), before)


class GivenBackTest(unittest.TestCase):
    def test_a_list_of_whole_numbers(self):
        for n in EVERY_N:
            told = answers(written([("begin", n)]) + MANY_CALLS)
            self.assertIs(type(told), list)
            self.assertEqual({type(number) for number in told}, {int})

    def test_nothing_is_printed(self):
        out, err = io.StringIO(), io.StringIO()
        with contextlib.redirect_stdout(out), contextlib.redirect_stderr(err):
            answers(MANY_CALLS)
        self.assertEqual((out.getvalue(), err.getvalue()), ("", ""))


if __name__ == "__main__":
    unittest.main()
