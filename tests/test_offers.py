"""Promise 2: bundle, gift and drop."""

import unittest

from basketcost.shop import Shop
from tests.helper import MOST, ask, bundle, drop, gift, last

WRONG_BUNDLES = (
    (16, 2, 100), (0, 1, 100), (0, 0, 100), (0, 17, 100), (0, 2, 16000001),
    (MOST, 2, 100), (0, MOST, 100), (0, 2, MOST), (MOST, MOST, MOST),
)
WRONG_GIFTS = (
    (16, 2, 1), (0, 1, 1), (0, 1, 0), (0, 0, 0), (0, 17, 1), (0, 17, 16),
    (0, 2, 0), (0, 2, 2), (0, 16, 0), (0, 16, 16), (0, 5, 6),
    (MOST, 2, 1), (0, MOST, 1), (0, 2, MOST), (0, MOST, MOST), (MOST, MOST, MOST),
)


class OfferTest(unittest.TestCase):
    def test_numbers_are_from_0_on_over_both_kinds(self):
        self.assertEqual(ask(bundle(0, 2, 5), gift(1, 3, 1), gift(0, 2, 1), bundle(15, 16, 7)), [0, 1, 2, 3])

    def test_is_kept_as_told(self):
        shop = Shop()
        shop.bundle(4, 3, 250)
        shop.gift(5, 6, 2)
        self.assertEqual(shop.offers, [("bundle", 4, 3, 250), ("gift", 5, 6, 2)])

    def test_the_same_may_come_again(self):
        self.assertEqual(ask(gift(1, 3, 1), gift(1, 3, 1)), [0, 1])

    def test_bundles_that_are_as_told(self):
        for sort in (0, 15):
            for n in range(2, 17):
                for price in (0, 16000000):
                    self.assertEqual(last(bundle(sort, n, price)), 0)

    def test_bundles_that_are_not_as_told(self):
        for sort, n, price in WRONG_BUNDLES:
            self.assertEqual(last(bundle(sort, n, price)), -1, (sort, n, price))

    def test_gifts_that_are_as_told(self):
        for sort in (0, 15):
            for n in range(2, 17):
                for k in range(1, n):
                    self.assertEqual(last(gift(sort, n, k)), 0)

    def test_gifts_that_are_not_as_told(self):
        for sort, n, k in WRONG_GIFTS:
            self.assertEqual(last(gift(sort, n, k)), -1, (sort, n, k))

    def test_gifts_have_less_free_than_there_are(self):
        for n in range(2, 17):
            self.assertEqual(ask(gift(0, n, 0), gift(0, n, n), gift(0, n, n + 1)), [-1, -1, -1])

    def test_refused_it_has_no_number(self):
        wrong = [bundle(*given) for given in WRONG_BUNDLES] + [gift(*given) for given in WRONG_GIFTS]
        told = ask(*wrong, drop(0), bundle(0, 2, 5), *wrong, gift(0, 2, 1))
        self.assertEqual(told, [-1] * len(wrong) + [-2, 0] + [-1] * len(wrong) + [1])

    def test_64_come_and_no_more(self):
        calls = [bundle(0, 2, 5), gift(0, 2, 1)] * 32
        self.assertEqual(ask(*calls, bundle(0, 2, 5), gift(0, 2, 1)), list(range(64)) + [-28, -28])

    def test_dropped_ones_have_come(self):
        calls = [call for k in range(64) for call in (gift(0, 2, 1), drop(k))]
        told = ask(*calls, gift(0, 2, 1), bundle(0, 2, 5))
        self.assertEqual(told[0:128:2], list(range(64)))
        self.assertEqual(told[1:128:2], [0] * 64)
        self.assertEqual(told[128:], [-28, -28])

    def test_not_as_told_comes_before_too_many(self):
        calls = [gift(0, 2, 1)] * 64
        for given in WRONG_BUNDLES:
            self.assertEqual(last(*calls, bundle(*given)), -1)
        for given in WRONG_GIFTS:
            self.assertEqual(last(*calls, gift(*given)), -1)

    def test_too_many_change_nothing(self):
        shop = Shop()
        for k in range(64):
            shop.bundle(k % 16, 2, k)
        before = list(shop.offers)
        self.assertEqual([shop.bundle(0, 2, 5), shop.gift(0, 2, 1)], [-28, -28])
        self.assertEqual(shop.offers, before)


class DropTest(unittest.TestCase):
    def test_there_is_none_at_first(self):
        self.assertEqual(ask(drop(0), drop(63), drop(64), drop(MOST)), [-2] * 4)

    def test_once_only(self):
        self.assertEqual(ask(bundle(0, 2, 5), drop(0), drop(0)), [0, 0, -2])

    def test_only_those_that_have_come(self):
        self.assertEqual(ask(bundle(0, 2, 5), gift(0, 2, 1), drop(2), drop(MOST), drop(1)), [0, 1, -2, -2, 0])

    def test_the_64th(self):
        calls = [gift(0, 2, 1)] * 64
        self.assertEqual(ask(*calls, drop(64), drop(63), drop(63))[64:], [-2, 0, -2])

    def test_others_keep_their_numbers(self):
        calls = [bundle(0, 2, 5), bundle(1, 3, 6), bundle(2, 4, 7), drop(1), gift(3, 5, 2), drop(2), drop(1), drop(3)]
        self.assertEqual(ask(*calls), [0, 1, 2, 0, 3, 0, -2, 0])

    def test_it_alone_is_not_there_any_more(self):
        shop = Shop()
        shop.bundle(4, 3, 250)
        shop.gift(5, 6, 2)
        shop.bundle(6, 7, 8)
        self.assertEqual(shop.drop(1), 0)
        self.assertEqual(shop.offers, [("bundle", 4, 3, 250), None, ("bundle", 6, 7, 8)])
        self.assertEqual([shop.drop(1), shop.drop(3)], [-2, -2])
        self.assertEqual(shop.offers, [("bundle", 4, 3, 250), None, ("bundle", 6, 7, 8)])
