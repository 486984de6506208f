"""Promise 4: sum and group, and how things are grouped."""

import unittest

from tests.helper import (
    MOST, article, ask, basket_of, begin, bundle, drop, gift, group, groups, last, pay, put, sum_of, take, tell,
)


class SumTest(unittest.TestCase):
    def test_empty_baskets_cost_nothing(self):
        self.assertEqual(tell(*[sum_of(basket) for basket in range(16)]), [[0]] * 16)

    def test_no_such_basket(self):
        self.assertEqual(tell(sum_of(15), sum_of(16), sum_of(MOST)), [[0], [-1], [-1]])

    def test_without_offers(self):
        calls = [article(1, 250), article(2, 100, 3), put(0, 1, 3), put(0, 2, 2), sum_of(0)]
        self.assertEqual(last(*calls), 950)

    def test_each_basket_by_itself(self):
        calls = [article(1, 100), bundle(0, 3, 1)] + [put(basket, 1, basket % 3 + 1) for basket in range(16)]
        told = ask(*calls, *[sum_of(basket) for basket in range(16)])[len(calls):]
        self.assertEqual(told, [(100, 200, 1)[basket % 3] for basket in range(16)])

    def test_a_bundle_again_and_again(self):
        self.assertEqual(last(article(7, 250), bundle(0, 3, 500), put(0, 7, 10), sum_of(0)), 1750)

    def test_a_bundle_of_the_dearest(self):
        self.assertEqual(last(bundle(0, 2, 12), *basket_of(1, 9, 10), sum_of(0)), 13)

    def test_gifts(self):
        for n, k, cost in ((3, 1, 180), (3, 2, 100), (2, 1, 150), (4, 3, 230)):
            self.assertEqual(last(gift(0, n, k), *basket_of(50, 100, 80), sum_of(0)), cost, (n, k))

    def test_a_gift_again_and_again(self):
        self.assertEqual(last(gift(0, 2, 1), *basket_of(5, 4, 3, 2, 1), sum_of(0)), 9)

    def test_a_gift_as_large_as_can_be(self):
        self.assertEqual(last(article(7, 9), gift(0, 16, 15), put(0, 7, 64), sum_of(0)), 36)

    def test_the_least_is_not_always_the_best_offer_first(self):
        calls = [bundle(0, 3, 210), bundle(0, 2, 150), article(7, 100), put(0, 7, 4), sum_of(0)]
        self.assertEqual(last(*calls), 300)

    def test_bundles_and_gifts_of_one_class(self):
        # The bundle is for the dearest, the gift for what is left.
        calls = [gift(0, 2, 1), bundle(0, 2, 7), *basket_of(4, 3, 9, 8)]
        self.assertEqual(groups(*calls), [[2, 1, 7, 2, 3], [2, 0, 4, 0, 1]])
        self.assertEqual(last(*calls, sum_of(0)), 11)

    def test_offers_are_of_one_class(self):
        calls = [bundle(1, 2, 1), gift(2, 2, 1)]
        self.assertEqual(last(*calls, *basket_of(100, 100), sum_of(0)), 200)
        self.assertEqual(last(*calls, *basket_of(100, sort=1), *basket_of(100, sort=2, first=5), sum_of(0)), 200)
        self.assertEqual(last(*calls, *basket_of(100, 100, sort=1), *basket_of(70, 60, sort=2, first=5), sum_of(0)), 71)

    def test_dearer_bundles_are_not_used(self):
        self.assertEqual(last(bundle(0, 2, 201), *basket_of(100, 100), sum_of(0)), 200)
        self.assertEqual(last(bundle(0, 2, 16000000), *basket_of(100, 100), sum_of(0)), 200)

    def test_the_greatest_sum(self):
        self.assertEqual(last(article(7, 1000000), put(15, 7, 64), sum_of(15)), 64000000)
        self.assertEqual(last(article(7, 1000000), bundle(0, 16, 15999999), put(15, 7, 64), sum_of(15)), 63999996)

    def test_follows_every_change(self):
        told = ask(
            article(7, 100), put(0, 7, 3), sum_of(0), bundle(0, 2, 150), sum_of(0), gift(0, 3, 2), sum_of(0),
            put(0, 7, 1), sum_of(0), drop(1), sum_of(0), take(0, 7, 3), sum_of(0), drop(0), sum_of(0),
            take(0, 7, 1), sum_of(0), article(7, 30), put(0, 7, 2), sum_of(0), pay(0), sum_of(0),
            put(0, 7, 1), sum_of(0), begin(), sum_of(0),
        )
        self.assertEqual(told, [
            0, 0, 300, 0, 250, 1, 100, 0, 200, 0, 300, 0, 100, 0, 100, 0, 0, 0, 0, 60, 0, 0, 0, 30, 0, 0,
        ])


class GroupTest(unittest.TestCase):
    def test_no_such_basket(self):
        self.assertEqual(tell(group(16, 0), group(MOST, MOST), group(16, MOST)), [[-1]] * 3)

    def test_empty_baskets_have_none(self):
        self.assertEqual(tell(*[group(basket, 0) for basket in range(16)], group(0, MOST)), [[0]] * 17)

    def test_in_the_interfaces_form(self):
        calls = [article(7, 250), bundle(0, 3, 500), put(15, 7, 7)]
        told = tell(*calls, *[group(15, k) for k in (0, 1, 2, 3, 4, 64, MOST)])[3:]
        self.assertEqual(told, [[3, 0, 500, 7, 7, 7], [3, 0, 500, 7, 7, 7], [1, 64, 250, 7], [0], [0], [0], [0]])

    def test_of_64_things_the_last_and_one_beyond(self):
        calls = [article(7, 250), put(0, 7, 64), group(0, 63), group(0, 64), group(0, MOST)]
        self.assertEqual(tell(*calls)[2:], [[1, 64, 250, 7], [0], [0]])
        calls = [gift(0, 16, 1), article(7, 1), put(0, 7, 64), group(0, 3), group(0, 4)]
        self.assertEqual(tell(*calls)[3:], [[16, 0, 15] + [7] * 16, [0]])

    def test_64_things_of_as_many_articles(self):
        calls = [bundle(0, 16, 100), *basket_of(*range(100, 164), first=192)]
        self.assertEqual(groups(*calls), [[16, 0, 100] + list(range(255 - k, 239 - k, -1)) for k in (0, 16, 32, 48)])

    def test_classes_in_their_order(self):
        calls = [call for sort in range(15, -1, -1) for call in basket_of(10 + sort, sort=sort, first=40 - sort)]
        self.assertEqual(groups(*calls), [[1, 64, 10 + sort, 40 - sort] for sort in range(16)])

    def test_groups_of_several_classes(self):
        calls = [bundle(5, 2, 3), gift(0, 2, 1), bundle(2, 2, 0)]
        calls += basket_of(4, 4, 4, sort=5) + basket_of(6, 7, 8, sort=0, first=10) + basket_of(1, sort=2, first=20)
        self.assertEqual(groups(*calls), [
            [2, 1, 8, 12, 11], [1, 64, 6, 10], [1, 64, 1, 20], [2, 0, 3, 0, 1], [1, 64, 4, 2],
        ])

    def test_dearer_ones_first_and_of_like_prices_the_lesser_article(self):
        things = [article(5, 100), article(3, 100), article(9, 200), article(4, 50), article(255, 100)]
        calls = things + [put(0, number, 1) for number in (4, 255, 5, 9, 3)]
        self.assertEqual(groups(*calls), [[1, 64, 200, 9]] + [[1, 64, 100, k] for k in (3, 5, 255)] + [[1, 64, 50, 4]])
        self.assertEqual(groups(bundle(0, 5, 1), *calls), [[5, 0, 1, 9, 3, 5, 255, 4]])

    def test_all_of_an_article_stand_together(self):
        calls = [gift(0, 3, 1), article(2, 50), article(1, 50), put(0, 2, 2), put(0, 1, 2), put(0, 2, 1), put(0, 1, 1)]
        self.assertEqual(groups(*calls), [[3, 0, 100, 1, 1, 1], [3, 0, 100, 2, 2, 2]])

    def test_of_like_offers_the_first(self):
        things = basket_of(100, 100)
        self.assertEqual(groups(bundle(0, 2, 50), bundle(0, 2, 50), *things), [[2, 0, 50, 0, 1]])
        self.assertEqual(groups(bundle(0, 2, 51), bundle(0, 2, 50), bundle(0, 2, 50), *things), [[2, 1, 50, 0, 1]])
        self.assertEqual(groups(bundle(0, 2, 100), gift(0, 2, 1), *things), [[2, 0, 100, 0, 1]])
        self.assertEqual(groups(gift(0, 2, 1), bundle(0, 2, 100), *things), [[2, 0, 100, 0, 1]])

    def test_the_rest_of_the_row_counts(self):
        three, two = bundle(0, 3, 250), bundle(0, 2, 175)
        things = basket_of(100, 100, 100, 100)
        self.assertEqual(groups(three, two, *things), [[3, 0, 250, 0, 1, 2], [1, 64, 100, 3]])
        self.assertEqual(groups(two, three, *things), [[2, 0, 175, 0, 1], [2, 0, 175, 2, 3]])
        # A cent less for three, and they're the better beginning though they came later.
        self.assertEqual(groups(two, bundle(0, 3, 249), *things), [[3, 1, 249, 0, 1, 2], [1, 64, 100, 3]])

    def test_without_an_offer_only_if_no_offer_will_do(self):
        self.assertEqual(groups(bundle(0, 2, 200), *basket_of(100, 100)), [[2, 0, 200, 0, 1]])
        self.assertEqual(groups(bundle(0, 2, 201), *basket_of(100, 100)), [[1, 64, 100, 0], [1, 64, 100, 1]])
        self.assertEqual(groups(bundle(0, 2, 150), *basket_of(100, 100, 100)), [[2, 0, 150, 0, 1], [1, 64, 100, 2]])

    def test_dropped_offers_are_passed_over(self):
        calls = [bundle(0, 2, 50), bundle(0, 2, 60), gift(0, 2, 1), *basket_of(100, 100)]
        self.assertEqual(groups(*calls), [[2, 0, 50, 0, 1]])
        self.assertEqual(groups(*calls, drop(0)), [[2, 1, 60, 0, 1]])
        self.assertEqual(groups(*calls, drop(0), drop(1)), [[2, 2, 100, 0, 1]])
        self.assertEqual(groups(*calls, drop(2), drop(0), drop(1)), [[1, 64, 100, 0], [1, 64, 100, 1]])

    def test_the_64th_offer(self):
        calls = [bundle(0, 2, 1000)] * 63 + [gift(0, 2, 1), *basket_of(100, 90)]
        self.assertEqual(groups(*calls), [[2, 63, 100, 0, 1]])

    def test_a_row_shorter_than_every_offer(self):
        calls = [bundle(0, 4, 1), gift(0, 16, 15), bundle(0, 5, 0), *basket_of(3, 2, 1)]
        self.assertEqual(groups(*calls), [[1, 64, 3, 0], [1, 64, 2, 1], [1, 64, 1, 2]])

    def test_prices_of_0(self):
        self.assertEqual(groups(*basket_of(0, 0)), [[1, 64, 0, 0], [1, 64, 0, 1]])
        self.assertEqual(groups(bundle(0, 2, 1), *basket_of(0, 0)), [[1, 64, 0, 0], [1, 64, 0, 1]])
        self.assertEqual(groups(bundle(0, 2, 0), *basket_of(0, 0)), [[2, 0, 0, 0, 1]])
        self.assertEqual(groups(gift(0, 2, 1), *basket_of(0, 0)), [[2, 0, 0, 0, 1]])
        # More of it is free by the second, but what more is free costs nothing.
        self.assertEqual(groups(gift(0, 3, 1), gift(0, 3, 2), *basket_of(5, 0, 0)), [[3, 0, 5, 0, 1, 2]])
