"""basketcost.baskets.answers: the form of what goes in and what comes back."""

import contextlib
import io
import unittest

from basketcost.baskets import answers
from tests.helper import MOST, Unchanging, article, begin, bundle, drop, flat, gift, put, split, take

SOME = [
    0, 1, 3, 250, 4, 70, 2, 4, 3, 500, 3, 4, 5, 2, 5, 0, 3, 10, 6, 0, 3, 4,
    4, 0, 4, 0, 5, 0, 9, 1, 1, 3, 250, 4, 70, 6, 0, 3, 7, 5, 0, 3, 59, 2, 4, 1, 500,
    0, 5, 0, 3, 1, 3, 0, 2, 1,
]
SOME_ANSWERS = [
    1, 0, 1, 0, 1, 0, 1, 1, 1, 0, 1, 0,
    1, 0, 1, -2, 1, -2, 1, -16, 1, -33, 1, -28, 1, -1,
    1, 0, 1, -2, 1, 0,
]


class AnswersTest(unittest.TestCase):
    def test_begin_alone(self):
        self.assertEqual(answers([0]), [1, 0])

    def test_each_call_by_its_number(self):
        self.assertEqual(answers(SOME), SOME_ANSWERS)

    def test_each_call_takes_its_own_numbers(self):
        for call in (begin(), article(1), bundle(1, 2, 3), gift(1, 2, 1), drop(5), put(0, 1, 2), take(0, 1, 2)):
            self.assertEqual(len(answers(flat([begin(), call, begin()]))), 6, call)

    def test_greatest_numbers(self):
        calls = [begin(), article(MOST, MOST, MOST, MOST), bundle(MOST, MOST, MOST), gift(MOST, MOST, MOST),
                 drop(MOST), put(MOST, MOST, MOST), take(MOST, MOST, MOST)]
        self.assertEqual(split(answers(flat(calls))), [[0], [-1], [-1], [-1], [-2], [-1], [-1]])

    def test_gives_back_a_list_of_whole_numbers(self):
        told = answers(SOME)
        self.assertIs(type(told), list)
        self.assertEqual({type(number) for number in told}, {int})

    def test_what_is_handed_in_is_not_changed(self):
        calls = list(SOME)
        answers(calls)
        self.assertEqual(calls, SOME)
        self.assertEqual(answers(Unchanging(SOME)), SOME_ANSWERS)

    def test_a_second_time_is_as_the_first(self):
        calls = list(SOME)
        self.assertEqual(answers(calls), SOME_ANSWERS)
        self.assertEqual(answers(calls), SOME_ANSWERS)

    def test_nothing_is_kept_of_articles_offers_baskets(self):
        answers(flat([begin(), article(7), put(0, 7, 64)] + [bundle(0, 2, 5)] * 64))
        calls = flat([begin(), put(0, 7, 1), drop(0), gift(0, 2, 1), article(7), take(0, 7, 1), put(0, 7, 64)])
        self.assertEqual(split(answers(calls)), [[0], [-2], [-2], [0], [0], [-33], [0]])

    def test_what_came_back_is_nobody_elses(self):
        told = answers(SOME)
        told.clear()
        self.assertEqual(answers(SOME), SOME_ANSWERS)

    def test_prints_nothing(self):
        printed = io.StringIO()
        with contextlib.redirect_stdout(printed), contextlib.redirect_stderr(printed):
            answers(SOME)
        self.assertEqual(printed.getvalue(), "")

    def test_as_many_calls_as_there_may_be(self):
        calls = [begin(), article(7)] + [put(0, 7, 1), take(0, 7, 1)] * 1499
        self.assertEqual(len(calls), 3000)
        self.assertEqual(answers(flat(calls)), [1, 0] * 3000)
