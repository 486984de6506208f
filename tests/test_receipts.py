"""Promises 6 to 8: pay, back and left."""

import unittest

from tests.helper import (
    MOST, article, back, basket_of, begin, bundle, drop, gift, group, left, pay, put, share, sum_of, take, tax, tell,
)


def after(calls, *more):
    return tell(*calls, *more)[len(calls):]


class PayTest(unittest.TestCase):
    def test_receipts_have_numbers_from_0_on(self):
        calls = [article(7, 250), bundle(0, 3, 500), put(0, 7, 4), put(15, 7, 1)]
        self.assertEqual(after(calls, pay(0), pay(15), put(0, 7, 3), pay(0)), [[0, 750], [1, 250], [0], [2, 500]])

    def test_the_basket_is_empty_then(self):
        calls = [article(7, 250), put(0, 7, 64), sum_of(0), pay(0)]
        told = after(calls, sum_of(0), group(0, 0), share(0, 7), tax(0, 0), take(0, 7, 1), pay(0), article(7, 1),
                     put(0, 7, 64), sum_of(0))
        self.assertEqual(told, [[0], [0], [-2], [0, 0, 0], [-33], [-61], [0], [0], [64]])

    def test_other_baskets_stay(self):
        calls = [article(7, 250)] + [put(basket, 7, basket + 1) for basket in range(16)] + [pay(6)]
        told = after(calls, *[sum_of(basket) for basket in range(16)], article(7))
        self.assertEqual(told, [[0 if basket == 6 else 250 * (basket + 1)] for basket in range(16)] + [[-16]])

    def test_an_article_stays_in_use_until_the_last_basket_is_paid(self):
        calls = [article(7, 250), put(0, 7, 1), put(1, 7, 1)]
        self.assertEqual(after(calls, pay(0), article(7), pay(1), article(7)), [[0, 250], [-16], [1, 250], [0]])

    def test_a_basket_that_costs_nothing_is_not_empty(self):
        self.assertEqual(after(basket_of(0), pay(0), left(0), pay(0)), [[0, 0], [0, 0, 1], [-61]])

    def test_no_such_basket(self):
        self.assertEqual(tell(pay(15), pay(16), pay(MOST)), [[-61], [-1], [-1]])

    def test_an_empty_basket(self):
        calls = [article(7), put(0, 7, 2), take(0, 7, 2)]
        self.assertEqual(after(calls, *[pay(basket) for basket in range(16)], left(0)), [[-61]] * 16 + [[-2]])

    def test_256_receipts_and_no_more(self):
        calls = [article(7, 10)] + [call for k in range(256) for call in (put(0, 7, 1 + k % 2), pay(0))]
        self.assertEqual(tell(*calls)[2::2], [[k, 10 + k % 2 * 10] for k in range(256)])
        told = after(calls, left(255), left(256), put(0, 7, 3), pay(0), sum_of(0), left(256), left(255), pay(0))
        self.assertEqual(told, [[0, 20, 2], [-2], [0], [-28], [30], [-2], [0, 20, 2], [-28]])
        # What is named first is answered first; brought back wholly, a receipt is still there.
        self.assertEqual(after(calls, pay(0), pay(16)), [[-61], [-1]])
        self.assertEqual(after(calls, back(0, 7, 1), put(0, 7, 1), pay(0), left(0)), [[0, 10], [0], [-28], [0, 0, 0]])
        self.assertEqual(after(calls, put(0, 7, 1), begin(), article(7), put(0, 7, 1), pay(0))[-1], [0, 100])

    def test_begin_again_there_are_no_receipts(self):
        calls = [article(7, 10), put(0, 7, 2), pay(0), begin()]
        told = after(calls, left(0), back(0, 7, 1), article(7, 20), put(0, 7, 1), pay(0), left(0))
        self.assertEqual(told, [[-2], [-2], [0], [0], [0, 20], [0, 20, 1]])


class BackTest(unittest.TestCase):
    def test_some_brought_back(self):
        calls = [article(7, 250), article(8, 40, 3), put(2, 7, 3), put(2, 8, 2), pay(2)]
        told = after(calls, left(0), back(0, 7, 1), left(0), back(0, 8, 2), left(0), back(0, 7, 2), left(0))
        self.assertEqual(told, [
            [0, 830, 5], [0, 250], [0, 580, 4], [0, 80], [0, 500, 2], [0, 500], [0, 0, 0],
        ])

    def test_what_is_left_is_grouped_anew(self):
        calls = [article(7, 250), bundle(0, 3, 600), bundle(0, 2, 450), put(0, 7, 3), pay(0)]
        told = after(calls, back(0, 7, 1), left(0), back(0, 7, 1), left(0), back(0, 7, 1), left(0))
        self.assertEqual(told, [[0, 150], [0, 450, 2], [0, 200], [0, 250, 1], [0, 250], [0, 0, 0]])

    def test_what_is_left_would_cost_no_less(self):
        calls = [article(7, 100), bundle(0, 3, 100), put(0, 7, 3), pay(0)]
        told = after(calls, back(0, 7, 1), left(0), back(0, 7, 1), left(0), back(0, 7, 1), left(0))
        self.assertEqual(told, [[0, 0], [0, 100, 2], [0, 0], [0, 100, 1], [0, 100], [0, 0, 0]])

    def test_what_was_given_back_before_counts(self):
        # 5 cost 100 and 200; brought back one by one what's left costs 200, 100, 200, 100, 0.
        calls = [article(7, 100), bundle(0, 3, 100), put(0, 7, 5), pay(0)]
        told = after(calls, *[back(0, 7, 1)] * 5, left(0))
        self.assertEqual(told, [[0, 100], [0, 100], [0, 0], [0, 0], [0, 100], [0, 0, 0]])

    def test_a_free_thing_brought_back(self):
        calls = [gift(0, 2, 1), *basket_of(100, 60), pay(0)]
        self.assertEqual(after(calls, back(0, 1, 1), back(0, 0, 1)), [[0, 0], [0, 100]])
        self.assertEqual(after(calls, back(0, 0, 1), back(0, 1, 1)), [[0, 40], [0, 60]])

    def test_all_at_once(self):
        calls = [bundle(0, 16, 1000), article(7, 100), put(0, 7, 64), pay(0)]
        self.assertEqual(after(calls, back(0, 7, 64), left(0), back(0, 7, 1)), [[0, 4000], [0, 0, 0], [-33]])

    def test_each_receipt_by_itself(self):
        calls = [article(7, 100), put(0, 7, 2), pay(0), put(0, 7, 3), pay(0), back(1, 7, 2)]
        self.assertEqual(after(calls, left(0), left(1), back(0, 7, 2), left(1)),
                         [[0, 200, 2], [0, 100, 1], [0, 200], [0, 100, 1]])

    def test_baskets_stay(self):
        calls = [article(7, 100), put(0, 7, 2), pay(0), put(0, 7, 3), back(0, 7, 2)]
        self.assertEqual(after(calls, sum_of(0), take(0, 7, 4), take(0, 7, 3)), [[300], [-33], [0]])

    def test_not_as_told(self):
        calls = [article(7, 100), article(255, 100), put(0, 7, 2), put(0, 255, 1), pay(0)]
        for call in (back(0, 256, 1), back(0, MOST, 1), back(0, 7, 0), back(0, 256, 0), back(0, MOST, MOST)):
            self.assertEqual(after(calls, call, left(0)), [[-1], [0, 300, 3]], call)
        self.assertEqual(after(calls, back(0, 255, 1), left(0)), [[0, 100], [0, 200, 2]])

    def test_no_such_receipt(self):
        calls = [article(7, 100), put(0, 7, 2), pay(0)]
        self.assertEqual(after(calls, back(1, 7, 1), back(MOST, 7, 1), back(256, 255, MOST)), [[-2]] * 3)
        self.assertEqual(tell(back(0, 0, 1), back(0, 255, MOST)), [[-2], [-2]])

    def test_not_so_many_left(self):
        calls = [article(7, 100), article(8, 100), put(0, 7, 2), pay(0), put(0, 7, 9)]
        told = after(calls, back(0, 7, 3), back(0, 8, 1), back(0, 9, 1), back(0, 7, MOST), left(0), back(0, 7, 1),
                     back(0, 7, 2), left(0), back(0, 7, 1), back(0, 7, 1))
        self.assertEqual(told, [[-33]] * 4 + [[0, 200, 2], [0, 100], [-33], [0, 100, 1], [0, 100], [-33]])

    def test_the_first_named_is_answered(self):
        self.assertEqual(tell(back(0, 256, 1), back(0, 7, 0), back(MOST, MOST, 0)), [[-1]] * 3)
        self.assertEqual(tell(article(7), back(0, 7, 65)), [[0], [-2]])


class LeftTest(unittest.TestCase):
    def test_no_such_receipt(self):
        calls = [article(7, 100), put(0, 7, 2), pay(0)]
        self.assertEqual(tell(left(0), left(255), left(MOST)), [[-2]] * 3)
        self.assertEqual(after(calls, left(0), left(1), left(256), left(MOST)), [[0, 200, 2], [-2], [-2], [-2]])

    def test_it_changes_nothing(self):
        calls = [article(7, 100), put(0, 7, 2), pay(0), left(0)]
        self.assertEqual(after(calls, left(0), back(0, 7, 2), left(0), left(0)),
                         [[0, 200, 2], [0, 200], [0, 0, 0], [0, 0, 0]])


class KeptTest(unittest.TestCase):
    """A receipt keeps its articles and offers as they were when it was paid."""

    def kept(self, *changes):
        # 3 cost 250; 2 that are left cost 150, one 100.
        calls = [article(7, 100), bundle(0, 2, 150), put(0, 7, 3), pay(0), *changes]
        told = after(calls, left(0), back(0, 7, 1), left(0), back(0, 7, 1), left(0), back(0, 7, 1), left(0))
        self.assertEqual(told, [
            [0, 250, 3], [0, 100], [0, 150, 2], [0, 50], [0, 100, 1], [0, 100], [0, 0, 0],
        ], changes)

    def test_nothing_changed(self):
        self.kept()

    def test_another_price(self):
        self.kept(article(7, 1))
        self.kept(article(7, 1000000))

    def test_another_class(self):
        self.kept(article(7, 100, 1))

    def test_the_offer_dropped(self):
        self.kept(drop(0))

    def test_other_offers_come(self):
        self.kept(bundle(0, 2, 1), gift(0, 2, 1), gift(0, 3, 2))

    def test_things_in_the_basket_again(self):
        self.kept(put(0, 7, 5), take(0, 7, 1))
        self.kept(put(0, 7, 5), pay(0), back(1, 7, 4))

    def test_the_offer_dropped_between(self):
        calls = [article(7, 100), bundle(0, 2, 150), put(0, 7, 3), pay(0), back(0, 7, 1), drop(0), article(7, 9)]
        self.assertEqual(after(calls, back(0, 7, 1), left(0)), [[0, 50], [0, 100, 1]])

    def test_offers_are_those_when_it_is_paid(self):
        calls = [article(7, 100), gift(0, 2, 1), put(0, 7, 3), bundle(0, 2, 150), drop(0), pay(0)]
        self.assertEqual(after(calls, left(0), back(0, 7, 1)), [[0, 250, 3], [0, 100]])

    def test_two_receipts_of_one_article(self):
        calls = [article(7, 100), put(0, 7, 2), pay(0), article(7, 30, 4, 70), bundle(4, 2, 40), put(0, 7, 2), pay(0)]
        self.assertEqual(after(calls, back(0, 7, 1), back(1, 7, 1), left(0), left(1)),
                         [[0, 100], [0, 10], [0, 100, 1], [0, 30, 1]])


class RefusedTest(unittest.TestCase):
    def test_refused_calls_change_nothing(self):
        calls = [article(7, 100, 0, 200), article(8, 100, 0, 200), bundle(0, 2, 150), put(0, 7, 3), pay(0),
                 put(0, 7, 1), put(0, 8, 2)]
        probes = [sum_of(0), group(0, 0), group(0, 1), group(0, 2), share(0, 7), share(0, 8), tax(0, 200), left(0),
                  left(1), sum_of(1), back(0, 7, 1), left(0), pay(0), left(1), take(0, 7, 1)]
        told = after(calls, *probes)
        self.assertEqual(told, [
            [250], [2, 0, 150, 7, 8], [1, 64, 100, 8], [0], [0, 75], [0, 175], [0, 250, 42], [0, 250, 3],
            [-2], [0], [0, 100], [0, 150, 2], [1, 250], [0, 250, 3], [-33],
        ])
        for call in (sum_of(16), group(16, 0), share(16, 7), share(0, 256), share(0, 9), share(1, 7), tax(16, 200),
                     tax(0, 501), pay(16), pay(1), back(0, 256, 1), back(0, 7, 0), back(1, 7, 1), back(0, 7, 4),
                     back(0, 8, 1), left(1), article(7, 1), put(0, 7, 62), take(0, 7, 2), drop(1), bundle(0, 1, 1)):
            both = after(calls, call, *probes)
            self.assertLess(both[0][0], 0, call)
            self.assertEqual(len(both[0]), 1, call)
            self.assertEqual(both[1:], told, call)
