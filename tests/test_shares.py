"""Promise 5: share and tax."""

import unittest

from tests.helper import MOST, article, basket_of, begin, bundle, drop, gift, put, share, take, tax, tell


def shares(*calls, articles):
    return tell(*calls, *[share(0, number) for number in articles])[len(calls):]


def tax_of(amount, rate):
    return tell(article(7, amount, 0, rate), put(0, 7, 1), tax(0, rate))[-1]


class ShareTest(unittest.TestCase):
    def test_without_an_offer_it_is_the_price(self):
        self.assertEqual(shares(*basket_of(100, 0, 70), articles=(0, 1, 2)), [[0, 100], [0, 0], [0, 70]])

    def test_what_is_cut_off_goes_into_a_later_one(self):
        calls = [bundle(0, 3, 100), *basket_of(100, 100, 100)]
        self.assertEqual(shares(*calls, articles=(0, 1, 2)), [[0, 33], [0, 33], [0, 34]])

    def test_by_prices_in_the_rows_order(self):
        calls = [gift(0, 3, 1), *basket_of(50, 100, 50)]
        self.assertEqual(shares(*calls, articles=(0, 1, 2)), [[0, 37], [0, 75], [0, 38]])

    def test_a_bundle_for_nothing(self):
        self.assertEqual(shares(bundle(0, 2, 0), *basket_of(9, 8), articles=(0, 1)), [[0, 0], [0, 0]])

    def test_a_group_whose_prices_are_all_0(self):
        for offer in (bundle(0, 2, 0), gift(0, 2, 1)):
            self.assertEqual(shares(offer, *basket_of(0, 0), articles=(0, 1)), [[0, 0], [0, 0]])

    def test_some_prices_of_0(self):
        self.assertEqual(shares(bundle(0, 3, 4), *basket_of(0, 9, 0), articles=(0, 1, 2)), [[0, 0], [0, 4], [0, 0]])

    def test_all_of_an_article_together(self):
        calls = [article(7, 100), bundle(0, 2, 101), put(0, 7, 5)]
        self.assertEqual(shares(*calls, articles=(7,)), [[0, 302]])

    def test_articles_whose_things_are_in_several_groups(self):
        calls = [article(1, 100), article(2, 100), bundle(0, 2, 101), put(0, 1, 3), put(0, 2, 2)]
        # 50 and 51 for article 1, 50 for it and 51 for article 2, 100 for article 2 by itself.
        self.assertEqual(shares(*calls, articles=(1, 2)), [[0, 151], [0, 151]])

    def test_great_prices(self):
        calls = [bundle(0, 16, 15999999), article(255, 1000000), put(0, 255, 64)]
        self.assertEqual(shares(*calls, articles=(255,)), [[0, 63999996]])

    def test_in_every_basket_by_itself(self):
        calls = [article(7, 100)] + [put(basket, 7, basket + 1) for basket in range(16)]
        told = tell(*calls, *[share(basket, 7) for basket in range(16)])[len(calls):]
        self.assertEqual(told, [[0, 100 * (basket + 1)] for basket in range(16)])

    def test_follows_every_change(self):
        told = tell(
            article(7, 100), put(0, 7, 2), share(0, 7), bundle(0, 2, 30), share(0, 7), put(0, 7, 1), share(0, 7),
            drop(0), share(0, 7), take(0, 7, 2), share(0, 7), take(0, 7, 1), share(0, 7), begin(), share(0, 7),
        )
        self.assertEqual(told[2::2], [[0, 200], [0, 30], [0, 130], [0, 300], [0, 100], [-2], [-2]])

    def test_not_as_told(self):
        calls = [article(7, 100), put(0, 7, 2)]
        for call in (share(16, 7), share(0, 256), share(MOST, 7), share(0, MOST), share(16, 256), share(MOST, MOST)):
            self.assertEqual(tell(*calls, call)[-1], [-1], call)

    def test_none_of_it(self):
        calls = [article(7, 100), article(8, 100), put(0, 7, 2)]
        for call in (share(0, 8), share(1, 7), share(0, 9), share(15, 255), share(0, 255)):
            self.assertEqual(tell(*calls, call)[-1], [-2], call)

    def test_the_first_named_is_answered(self):
        self.assertEqual(tell(share(16, 7), share(15, 256)), [[-1], [-1]])


class TaxTest(unittest.TestCase):
    def test_ordinary_sums(self):
        self.assertEqual(tax_of(1190, 190), [0, 1190, 190])
        self.assertEqual(tax_of(1000, 190), [0, 1000, 160])
        self.assertEqual(tax_of(999, 70), [0, 999, 65])

    def test_a_half_to_the_even_one(self):
        # At a rate of 200 the tax is a sixth.
        for amount, cents in ((3, 0), (9, 2), (15, 2), (21, 4), (27, 4), (999999, 166666)):
            self.assertEqual(tax_of(amount, 200), [0, amount, cents])

    def test_beside_a_half(self):
        for amount, cents in ((2, 0), (4, 1), (8, 1), (10, 2), (14, 2), (16, 3), (6, 1), (0, 0)):
            self.assertEqual(tax_of(amount, 200), [0, amount, cents])
        # Of 1001 parts there is no half: 500 are below it, 501 above.
        self.assertEqual([tax_of(500, 1), tax_of(501, 1)], [[0, 500, 0], [0, 501, 1]])

    def test_rate_0(self):
        self.assertEqual(tax_of(1000000, 0), [0, 1000000, 0])

    def test_rates_500_and_501(self):
        self.assertEqual(tax_of(300, 500), [0, 300, 100])
        self.assertEqual(tell(tax(0, 500), tax(0, 501), tax(15, 501), tax(0, MOST)), [[0, 0, 0], [-1], [-1], [-1]])

    def test_a_rate_that_no_thing_has(self):
        calls = [article(7, 100, 0, 70), article(8, 100, 0, 190), put(0, 7, 2), tax(0, 190), tax(0, 69), tax(1, 70)]
        self.assertEqual(tell(*calls)[3:], [[0, 0, 0]] * 3)

    def test_of_the_sum_not_of_each(self):
        calls = [article(1, 3, 0, 200), article(2, 3, 5, 200), article(3, 1, 0, 70), put(0, 1, 1), put(0, 2, 1)]
        self.assertEqual(tell(*calls, put(0, 3, 1), tax(0, 200), tax(0, 70))[-2:], [[0, 6, 1], [0, 1, 0]])

    def test_of_shares_not_of_prices(self):
        calls = [bundle(0, 3, 100), article(1, 100, 0, 250), article(2, 100, 0, 70), put(0, 1, 1), put(0, 2, 2)]
        self.assertEqual(tell(*calls, tax(0, 250), tax(0, 70), tax(0, 0))[-3:], [[0, 33, 7], [0, 67, 4], [0, 0, 0]])

    def test_things_of_an_article_in_several_groups(self):
        calls = [article(1, 100, 0, 500), article(2, 100), bundle(0, 2, 101), put(0, 1, 3), put(0, 2, 2)]
        self.assertEqual(tell(*calls, tax(0, 500), tax(0, 0))[-2:], [[0, 151, 50], [0, 151, 0]])

    def test_baskets_15_and_16(self):
        calls = [article(1, 120, 0, 200), put(15, 1, 1), tax(15, 200), tax(16, 200), tax(MOST, 200), tax(16, 501)]
        self.assertEqual(tell(*calls)[2:], [[0, 120, 20], [-1], [-1], [-1]])

    def test_follows_every_change(self):
        told = tell(
            article(7, 60, 0, 200), put(0, 7, 2), tax(0, 200), bundle(0, 2, 30), tax(0, 200), drop(0), tax(0, 200),
            take(0, 7, 2), tax(0, 200), article(7, 60, 0, 500), put(0, 7, 1), tax(0, 200), tax(0, 500),
        )
        self.assertEqual([told[k] for k in (2, 4, 6, 8, 11, 12)],
                         [[0, 120, 20], [0, 30, 5], [0, 120, 20], [0, 0, 0], [0, 0, 0], [0, 60, 20]])
