"""Promise 3: put and take."""

import unittest

from basketcost.shop import Shop
from tests.helper import MOST, article, ask, last, put, take

WRONG_MOVES = (
    (16, 7, 1), (0, 256, 1), (0, 7, 0),
    (MOST, 7, 1), (0, MOST, 1), (16, 256, 0), (MOST, MOST, 0), (MOST, MOST, MOST),
)


class PutTest(unittest.TestCase):
    def test_every_basket(self):
        for basket in range(16):
            self.assertEqual(ask(article(7), put(basket, 7, 3), take(basket, 7, 3)), [0, 0, 0])

    def test_into_that_basket_alone(self):
        for basket in range(16):
            others = [take(other, 7, 1) for other in range(16) if other != basket]
            self.assertEqual(ask(article(7), put(basket, 7, 3), *others), [0, 0] + [-33] * 15)

    def test_they_are_in_it_too(self):
        calls = [article(7), put(0, 7, 3), put(0, 7, 2)]
        self.assertEqual(ask(*calls, take(0, 7, 6), take(0, 7, 5), take(0, 7, 1)), [0, 0, 0, -33, 0, -33])

    def test_of_several_articles(self):
        calls = [article(7), article(255), put(0, 7, 3), put(0, 255, 2)]
        self.assertEqual(ask(*calls, take(0, 7, 4), take(0, 255, 3), take(0, 255, 2), take(0, 7, 3))[4:],
                         [-33, -33, 0, 0])

    def test_not_as_told(self):
        for given in WRONG_MOVES:
            self.assertEqual(last(article(7), put(*given)), -1, given)

    def test_no_such_article(self):
        self.assertEqual(ask(article(7), put(0, 8, 1), put(15, 255, 1), put(0, 0, 64)), [0, -2, -2, -2])

    def test_64_things_and_65(self):
        self.assertEqual(ask(article(7), put(0, 7, 64), put(0, 7, 1)), [0, 0, -28])
        self.assertEqual(ask(article(7), put(0, 7, 65), put(0, 7, 64)), [0, -28, 0])
        self.assertEqual(ask(article(7), put(0, 7, 63), put(0, 7, 2), put(0, 7, 1)), [0, 0, -28, 0])
        self.assertEqual(last(article(7), put(0, 7, MOST)), -28)

    def test_64_things_are_counted_over_all_articles(self):
        calls = [article(7), article(8), put(0, 7, 40), put(0, 8, 25), put(0, 8, 24), put(0, 8, 1), put(0, 7, 1)]
        self.assertEqual(ask(*calls)[2:], [0, -28, 0, -28, -28])

    def test_64_things_of_as_many_articles(self):
        calls = [article(number) for number in range(65)] + [put(3, number, 1) for number in range(65)]
        self.assertEqual(ask(*calls), [0] * 129 + [-28])

    def test_64_things_are_counted_in_each_basket(self):
        calls = [article(7)] + [put(basket, 7, 64) for basket in range(16)]
        self.assertEqual(ask(*calls), [0] * 17)

    def test_there_is_room_again_after_take(self):
        calls = [article(7), article(8), put(0, 7, 64), take(0, 7, 2), put(0, 8, 3), put(0, 8, 2), put(0, 8, 1)]
        self.assertEqual(ask(*calls), [0, 0, 0, 0, -28, 0, -28])

    def test_the_first_named_is_answered(self):
        full = [article(7), put(0, 7, 64)]
        self.assertEqual(ask(*full, put(0, 256, 1), put(0, 7, 0), put(0, 8, 0), put(16, 8, 65))[2:], [-1] * 4)
        self.assertEqual(ask(*full, put(0, 8, 1), put(0, 8, MOST))[2:], [-2, -2])

    def test_refused_it_changes_nothing(self):
        shop = Shop()
        shop.article(7, 250, 4, 70)
        shop.put(0, 7, 60)
        for given in WRONG_MOVES:
            self.assertEqual(shop.put(*given), -1)
        self.assertEqual([shop.put(0, 8, 1), shop.put(0, 7, 5)], [-2, -28])
        self.assertEqual(shop.baskets, [{7: 60}] + [{}] * 15)
        self.assertEqual(shop.articles, {7: (250, 4, 70)})


class TakeTest(unittest.TestCase):
    def test_they_are_not_in_it_any_more(self):
        self.assertEqual(ask(article(7), put(2, 7, 5), take(2, 7, 2), take(2, 7, 4), take(2, 7, 3), take(2, 7, 1)),
                         [0, 0, 0, -33, 0, -33])

    def test_not_as_told(self):
        for given in WRONG_MOVES:
            self.assertEqual(last(article(7), put(0, 7, 5), take(*given)), -1, given)

    def test_not_so_many(self):
        self.assertEqual(ask(article(7), take(0, 7, 1), put(0, 7, 64), take(0, 7, 65), take(0, 7, MOST)),
                         [0, -33, 0, -33, -33])

    def test_no_such_article_is_not_so_many(self):
        self.assertEqual(ask(take(0, 7, 1), take(15, 255, MOST)), [-33, -33])

    def test_others_stay(self):
        shop = Shop()
        shop.article(7, 250, 4, 70)
        shop.article(8, 250, 4, 70)
        for basket, number, many in ((0, 7, 5), (0, 8, 4), (1, 7, 3)):
            shop.put(basket, number, many)
        self.assertEqual([shop.take(0, 7, 2), shop.take(0, 8, 4)], [0, 0])
        self.assertEqual(shop.baskets, [{7: 3}, {7: 3}] + [{}] * 14)

    def test_the_article_stays(self):
        self.assertEqual(ask(article(7), put(0, 7, 1), take(0, 7, 1), put(0, 7, 1)), [0, 0, 0, 0])

    def test_refused_it_changes_nothing(self):
        shop = Shop()
        shop.article(7, 250, 4, 70)
        shop.put(0, 7, 5)
        for given in WRONG_MOVES:
            self.assertEqual(shop.take(*given), -1)
        self.assertEqual([shop.take(0, 7, 6), shop.take(0, 8, 1), shop.take(1, 7, 1)], [-33, -33, -33])
        self.assertEqual(shop.baskets, [{7: 5}] + [{}] * 15)
