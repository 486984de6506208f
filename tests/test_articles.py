"""Promise 1: begin and article."""

import unittest

from basketcost.shop import Shop
from tests.helper import MOST, article, ask, begin, bundle, drop, last, put, take


class BeginTest(unittest.TestCase):
    def test_answers_0_each_time(self):
        self.assertEqual(ask(begin(), begin()), [0, 0])

    def test_again_there_are_no_articles(self):
        self.assertEqual(ask(article(7), begin(), put(0, 7, 1)), [0, 0, -2])

    def test_again_there_are_no_offers(self):
        self.assertEqual(ask(bundle(0, 2, 5), begin(), drop(0), bundle(0, 2, 5)), [0, 0, -2, 0])

    def test_again_dropped_offers_have_not_come(self):
        calls = [bundle(0, 2, 5)] * 64 + [drop(3), begin(), bundle(0, 2, 5), drop(3)]
        self.assertEqual(ask(*calls)[-4:], [0, 0, 0, -2])

    def test_again_all_baskets_are_empty(self):
        for basket in range(16):
            calls = [article(7), put(basket, 7, 64), begin(), article(7), take(basket, 7, 1), put(basket, 7, 64)]
            self.assertEqual(ask(*calls), [0, 0, 0, 0, -33, 0])


class ArticleTest(unittest.TestCase):
    def test_there_is_none_at_first(self):
        for number in range(256):
            self.assertEqual(last(put(0, number, 1)), -2)

    def test_every_number_up_to_255(self):
        for number in range(256):
            self.assertEqual(ask(article(number), put(0, number, 1)), [0, 0])

    def test_is_kept_as_told(self):
        shop = Shop()
        self.assertEqual(shop.article(3, 250, 4, 70), 0)
        self.assertEqual(shop.article(5, 1, 2, 3), 0)
        self.assertEqual(shop.articles, {3: (250, 4, 70), 5: (1, 2, 3)})

    def test_again_it_is_another(self):
        shop = Shop()
        shop.article(3, 250, 4, 70)
        self.assertEqual(shop.article(3, 9, 5, 190), 0)
        self.assertEqual(shop.articles, {3: (9, 5, 190)})

    def test_edges_that_are_as_told(self):
        for call in (
            article(0, 0, 0, 0),
            article(255, 1000000, 15, 500),
            article(255),
            article(0, price=1000000),
            article(0, sort=15),
            article(0, rate=500),
        ):
            self.assertEqual(ask(call, put(0, call[1], 1)), [0, 0], call)

    def test_edges_that_are_not_as_told(self):
        for number, price, sort, rate in (
            (256, 100, 0, 0), (0, 1000001, 0, 0), (0, 100, 16, 0), (0, 100, 0, 501),
            (MOST, 100, 0, 0), (0, MOST, 0, 0), (0, 100, MOST, 0), (0, 100, 0, MOST),
            (MOST, MOST, MOST, MOST),
        ):
            call = article(number, price, sort, rate)
            self.assertEqual(last(call), -1, call)

    def test_not_as_told_it_changes_nothing(self):
        for price, sort, rate in ((1000001, 0, 0), (100, 16, 0), (100, 0, 501)):
            self.assertEqual(ask(article(9, price, sort, rate), put(0, 9, 1)), [-1, -2])

    def test_refused_while_any_basket_has_one(self):
        for basket in range(16):
            calls = [article(7), article(8), put(basket, 7, 2), article(7), article(8)]
            self.assertEqual(ask(*calls), [0, 0, 0, -16, 0])

    def test_refused_until_the_last_one_is_taken(self):
        calls = [article(7), put(0, 7, 2), put(9, 7, 1), take(0, 7, 1), article(7), take(0, 7, 1), article(7)]
        self.assertEqual(ask(*calls), [0, 0, 0, 0, -16, 0, -16])
        self.assertEqual(last(*calls, take(9, 7, 1), article(7)), 0)

    def test_not_as_told_comes_before_in_a_basket(self):
        for price, sort, rate in ((1000001, 0, 0), (100, 16, 0), (100, 0, 501)):
            self.assertEqual(last(article(7), put(0, 7, 1), article(7, price, sort, rate)), -1)

    def test_refused_it_changes_nothing(self):
        shop = Shop()
        shop.article(7, 250, 4, 70)
        shop.put(2, 7, 1)
        self.assertEqual(shop.article(7, 9, 5, 190), -16)
        self.assertEqual(shop.article(7, 1000001, 5, 190), -1)
        self.assertEqual(shop.articles, {7: (250, 4, 70)})
        self.assertEqual(shop.baskets[2], {7: 1})
