"""How calls are handed in and answers given back."""

import builtins
import contextlib
import inspect
import io
import sys
import unittest
from unittest import mock

from denseparts.graphs import UnknownCall, answers

# cores, node, node, node, edge 1 2, edge 3 2, edge 1 1, cut 7, density of 1 2, density of none, core 1, cores, peel,
# turned, forests, tight 0, tight 1, edges, cut 0, densest, core 9, cores, peel, turned, forests, tight 1, edges
MIXED = [6, 0, 0, 0, 1, 1, 2, 1, 3, 2, 1, 1, 1, 2, 7, 4, 2, 1, 2, 4, 0, 5, 1, 6, 7, 8, 9, 10, 0, 10, 1, 11,
         2, 0, 3, 5, 9, 6, 7, 8, 9, 10, 1, 11]
MIXED_ANSWERS = [0, 1, 1, 1, 2, 1, 3, 1, 0, 1, 1, 1, -1, 1, -2, 3, 1, 1, 2, 1, -1, 4, 3, 1, 2, 3, 3, 1, 1, 1,
                 7, 3, 1, 1, 2, 1, 3, 0, 3, 1, 1, 2, 1, 1, 1, -1, 4, 3, 1, 2, 3, 5, 2, 1, 2, 3, 2,
                 1, 1, 5, 1, 2, 2, 2, 3, 1, 0, 3, 0, 1, 1, 7, 3, 1, 0, 2, 1, 3, 0, 2, 1, 2, 1, 1, 3, 2, 2, 3,
                 3, 1, 3, 2]

# Ten nodes and 20 edges, then every call that asks: it fills the 40 calls of a list.
FULLEST = [0] * 10 + [1, 1, 2, 1, 10, 9, 1, 3, 7, 1, 5, 4] * 5 + [3, 4, 2, 1, 2, 5, 2, 6, 7, 8, 9, 10, 2, 11, 3]


class Unchanging(list):
    """A list that fails when it is changed, even if it were changed back later."""

    def refuse(self, *given, **named):
        raise AssertionError("what was handed in is changed")

    __setitem__ = __delitem__ = __iadd__ = __imul__ = refuse
    append = clear = extend = insert = pop = remove = reverse = sort = refuse


class Form(unittest.TestCase):
    def test_each_answer_has_its_count_before_it(self):
        self.assertEqual(answers(list(MIXED)), MIXED_ANSWERS)

    def test_one_call_of_each_kind_by_itself(self):
        self.assertEqual(answers([0]), [1, 1])
        self.assertEqual(answers([1, 1, 2]), [1, -1])
        self.assertEqual(answers([2, 0]), [1, -2])
        self.assertEqual(answers([3]), [1, -3])
        self.assertEqual(answers([4, 0]), [1, -1])
        self.assertEqual(answers([4, 3, 1, 2, 3]), [1, -1])
        self.assertEqual(answers([5, 0]), [1, 0])
        self.assertEqual(answers([6]), [0])
        self.assertEqual(answers([7]), [1, 0])
        self.assertEqual(answers([8]), [1, 0])
        self.assertEqual(answers([9]), [1, 0])
        self.assertEqual(answers([10, 0]), [1, -1])
        self.assertEqual(answers([10, 1]), [1, 0])
        self.assertEqual(answers([11]), [1, 0])

    def test_a_row_is_as_long_as_its_count_whatever_stands_in_it(self):
        self.assertEqual(answers([0, 4, 4, 0, 0, 0, 0, 0]), [1, 1, 1, -1, 1, 2])
        self.assertEqual(answers([4, 20] + [3] * 20 + [0]), [1, -1, 1, 1])

    def test_numbers_of_a_call_are_not_taken_for_calls(self):
        self.assertEqual(answers([0, 0, 1, 2, 1, 5, 0, 2, 0, 2, 3]), [1, 1, 1, 2, 1, 0, 3, 2, 1, 2, 1, 0, 1, -2])
        self.assertEqual(answers([10, 11, 10, 10, 11, 1, 6, 7, 5, 8, 2, 9]), [1, 0, 1, 0, 1, 0, 1, -1, 1, 0, 1, -2])

    def test_it_gives_back_a_list_of_whole_numbers(self):
        told = answers(list(MIXED))
        self.assertIs(type(told), list)
        self.assertEqual({type(number) for number in told}, {int})

    def test_the_longest_list(self):
        self.assertEqual(answers(([4, 20] + [1] * 20) * 40), [1, -1] * 40)

    def test_forty_calls_without_one_number_answered(self):
        self.assertEqual(answers([6] * 40), [0] * 40)

    def test_a_number_that_is_no_call(self):
        with self.assertRaises(UnknownCall):
            answers([0, 12])


class NothingElse(unittest.TestCase):
    def test_what_is_handed_in_is_not_changed(self):
        handed = list(MIXED)
        answers(handed)
        self.assertEqual(handed, MIXED)

    def test_what_is_handed_in_is_not_changed_for_a_while_either(self):
        handed = Unchanging(MIXED)
        self.assertEqual(answers(handed), MIXED_ANSWERS)
        self.assertEqual(handed, MIXED)

    def test_nothing_is_kept_from_one_time_to_the_next(self):
        first = answers(list(MIXED))
        self.assertEqual(answers([3]), [1, -3])
        self.assertEqual(answers([0] * 11)[-2:], [1, -5])
        self.assertEqual(answers(list(MIXED)), first)

    def test_a_second_time_each_call_answers_as_the_first(self):
        first = answers(list(FULLEST))
        self.assertEqual(answers(list(FULLEST)), first)

    def test_few_calls_within_one_another(self):
        first = answers(list(FULLEST))
        before = sys.getrecursionlimit()
        sys.setrecursionlimit(len(inspect.stack()) + 20)
        try:
            told = answers(list(FULLEST))
        finally:
            sys.setrecursionlimit(before)
        self.assertEqual(told, first)

    def test_what_was_given_back_is_the_callers(self):
        first = answers(list(MIXED))
        first.clear()
        self.assertEqual(answers(list(MIXED)), MIXED_ANSWERS)

    def test_it_prints_reads_and_imports_nothing(self):
        forbidden = mock.Mock(side_effect=AssertionError("read or imported"))
        printed = io.StringIO()
        with contextlib.ExitStack() as patches:
            patches.enter_context(contextlib.redirect_stdout(printed))
            patches.enter_context(contextlib.redirect_stderr(printed))
            for name in ("open", "input", "__import__"):
                patches.enter_context(mock.patch.object(builtins, name, forbidden))
            told = answers(list(MIXED))
        self.assertEqual(told, MIXED_ANSWERS)
        self.assertEqual(printed.getvalue(), "")
        forbidden.assert_not_called()
