"""basketcost.baskets.answers: the form of what goes in and what comes back."""

import contextlib
import io
import unittest

from basketcost.baskets import answers
from tests.helper import (
    MOST, Unchanging, article, back, begin, bundle, drop, flat, gift, group, left, pay, put, share, split, sum_of,
    take, tax,
)

SOME = [
    0, 1, 3, 250, 4, 70, 2, 4, 3, 500, 3, 4, 5, 2, 5, 0, 3, 10, 6, 0, 3, 4,
    4, 0, 4, 0, 5, 0, 9, 1, 1, 3, 250, 4, 70, 6, 0, 3, 7, 5, 0, 3, 59, 2, 4, 1, 500,
    0, 5, 0, 3, 1, 3, 0, 2, 1,
    1, 7, 300, 0, 200, 1, 8, 100, 2, 70, 5, 15, 7, 3, 5, 15, 8, 1, 7, 15, 7, 16, 8, 15, 0, 8, 15, 2, 8, 15, 3,
    9, 15, 7, 9, 15, 9, 10, 15, 200, 10, 15, 501, 11, 15, 11, 15, 12, 0, 7, 2, 12, 0, 7, 2, 12, 1, 7, 1, 13, 0, 13, 1,
    0, 13, 0,
]
SOME_ANSWERS = [
    1, 0, 1, 0, 1, 0, 1, 1, 1, 0, 1, 0,
    1, 0, 1, -2, 1, -2, 1, -16, 1, -33, 1, -28, 1, -1,
    1, 0, 1, -2, 1, 0,
    1, 0, 1, 0, 1, 0, 1, 0, 1, 700, 1, -1, 5, 2, 0, 300, 7, 7, 4, 1, 64, 100, 8, 1, 0,
    2, 0, 600, 1, -2, 3, 0, 600, 100, 1, -1, 2, 0, 700, 1, -61, 2, 0, 300, 1, -33, 1, -2, 3, 0, 400, 2, 1, -2,
    1, 0, 1, -2,
]


class AnswersTest(unittest.TestCase):
    def test_begin_alone(self):
        self.assertEqual(answers([0]), [1, 0])

    def test_each_call_by_its_number(self):
        self.assertEqual(answers(SOME), SOME_ANSWERS)

    def test_each_call_takes_its_own_numbers(self):
        for call in (begin(), article(1), bundle(1, 2, 3), gift(1, 2, 1), drop(5), put(0, 1, 2), take(0, 1, 2),
                     sum_of(0), group(0, 0), share(0, 1), tax(16, 0), pay(0), back(0, 1, 1), left(0)):
            self.assertEqual(len(answers(flat([begin(), call, begin()]))), 6, call)

    def test_greatest_numbers(self):
        calls = [begin(), article(MOST, MOST, MOST, MOST), bundle(MOST, MOST, MOST), gift(MOST, MOST, MOST),
                 drop(MOST), put(MOST, MOST, MOST), take(MOST, MOST, MOST), sum_of(MOST), group(MOST, MOST),
                 share(MOST, MOST), tax(MOST, MOST), pay(MOST), back(MOST, MOST, MOST), left(MOST)]
        self.assertEqual(split(answers(flat(calls))), [
            [0], [-1], [-1], [-1], [-2], [-1], [-1], [-1], [-1], [-1], [-1], [-1], [-1], [-2],
        ])

    def test_gives_back_a_list_of_whole_numbers(self):
        told = answers(SOME)
        self.assertIs(type(told), list)
        self.assertEqual({type(number) for number in told}, {int})

    def test_what_is_handed_in_is_not_changed(self):
        calls = list(SOME)
        answers(calls)
        self.assertEqual(calls, SOME)
        self.assertEqual(answers(Unchanging(SOME)), SOME_ANSWERS)

    def test_a_second_time_is_as_the_first(self):
        calls = list(SOME)
        self.assertEqual(answers(calls), SOME_ANSWERS)
        self.assertEqual(answers(calls), SOME_ANSWERS)

    def test_nothing_is_kept_of_articles_offers_baskets(self):
        answers(flat([begin(), article(7), put(0, 7, 64)] + [bundle(0, 2, 5)] * 64))
        calls = flat([begin(), put(0, 7, 1), drop(0), gift(0, 2, 1), article(7), take(0, 7, 1), put(0, 7, 64)])
        self.assertEqual(split(answers(calls)), [[0], [-2], [-2], [0], [0], [-33], [0]])

    def test_nothing_is_kept_of_groups_and_receipts(self):
        answers(flat([begin(), article(7, 100), put(0, 7, 3), sum_of(0), pay(0), put(0, 7, 2), sum_of(0)]))
        calls = flat([begin(), sum_of(0), group(0, 0), left(0), back(0, 7, 1), article(7, 5), put(0, 7, 1), pay(0)])
        self.assertEqual(split(answers(calls)), [[0], [0], [0], [-2], [-2], [0], [0], [0, 5]])

    def test_what_came_back_is_nobody_elses(self):
        told = answers(SOME)
        told.clear()
        self.assertEqual(answers(SOME), SOME_ANSWERS)

    def test_prints_nothing(self):
        printed = io.StringIO()
        with contextlib.redirect_stdout(printed), contextlib.redirect_stderr(printed):
            answers(SOME)
        self.assertEqual(printed.getvalue(), "")

    def test_as_many_calls_as_there_may_be(self):
        calls = [begin(), article(7)] + [put(0, 7, 1), take(0, 7, 1)] * 1499
        self.assertEqual(len(calls), 3000)
        self.assertEqual(answers(flat(calls)), [1, 0] * 3000)

    def test_as_many_calls_as_there_may_be_of_full_baskets(self):
        # Each number of things has a bundle and gifts, of which few are ever the best.
        offers = [bundle(0, 2 + k % 15, 199 + 100 * (k % 15)) if k < 15 else gift(0, 2 + k % 15, 1) for k in range(64)]
        calls = [begin(), *offers, article(7, 100), put(0, 7, 64)]
        asked = [sum_of(0), group(0, 0), share(0, 7), tax(0, 0), take(0, 7, 1), sum_of(0), put(0, 7, 1)]
        calls += asked * 200
        told = split(answers(flat(calls)))[66:]
        self.assertEqual(told[1:], [[3200], [2, 15, 100, 7, 7], [0, 3200], [0, 3200, 0], [0], [3200], [0]] * 200)
        calls = [begin(), *offers, article(7, 100)]
        calls += [call for k in range(256) for call in [put(0, 7, 64), pay(0)] + [back(k, 7, 1)] * 9]
        self.assertLessEqual(len(calls), 3000)
        told = split(answers(flat(calls)))[66:]
        for k in range(256):
            self.assertEqual(told[11 * k:11 * k + 11], [[0], [k, 3200]] + [[0, 0], [0, 100]] * 4 + [[0, 0]])
