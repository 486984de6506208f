"""What holds: the least of all ways, together no dearer, it adds up, given back."""

import functools
import itertools
import random
import unittest

from tests.helper import article, back, bundle, drop, gift, groups, last, left, pay, put, share, sum_of, tax, tell


def price_of(prices, offer):
    """What a group of these things costs by the offer."""
    if offer[0] == 2:
        return offer[3]
    return sum(sorted(prices)[offer[3]:])


def least_of_all(prices, offers):
    """The least over all ways to put things of one class into groups, whether they're neighbours or not."""
    @functools.lru_cache(maxsize=None)
    def least(things):
        if not things:
            return 0
        first, rest = things[0], things[1:]
        costs = [prices[first] + least(rest)]
        for offer in offers:
            for others in itertools.combinations(rest, offer[2] - 1):
                behind = tuple(thing for thing in rest if thing not in others)
                costs.append(price_of([prices[k] for k in (first,) + others], offer) + least(behind))
        return min(costs)
    return least(tuple(range(len(prices))))


def some_offer(source, sort, most):
    n = source.randint(2, 5)
    if source.random() < 0.5:
        return bundle(sort, n, source.randint(0, most * n))
    return gift(sort, n, source.randint(1, n - 1))


class Case:
    """Some articles, offers and two baskets' things, of two classes."""

    def __init__(self, seed, things=4):
        source = random.Random(seed)
        most = source.choice((1, 3, 10, 1000))
        self.articles = {
            number: (source.randint(0, most), source.choice((3, 9)), source.choice((0, 70, 190, 200)))
            for number in range(6)
        }
        self.offers = [some_offer(source, source.choice((3, 9)), most) for k in range(source.randint(0, 4))]
        self.more = some_offer(source, source.choice((3, 9)), most)
        self.baskets = [[source.randrange(6) for k in range(source.randint(1, things))] for basket in (0, 1)]

    def prices(self, numbers, sort):
        return [self.articles[number][0] for number in numbers if self.articles[number][1] == sort]

    def least(self, numbers):
        return sum(least_of_all(self.prices(numbers, sort), [offer for offer in self.offers if offer[1] == sort])
                   for sort in (3, 9))

    def calls(self, numbers, basket=0):
        return [article(number, *self.articles[number]) for number in self.articles] + self.offers \
            + [put(basket, number, 1) for number in numbers]


class HoldsTest(unittest.TestCase):
    def test_the_least_of_all(self):
        used = set()
        for seed in range(400):
            case = Case(seed)
            numbers = case.baskets[0] + case.baskets[1]
            self.assertEqual(last(*case.calls(numbers), sum_of(0)), case.least(numbers), seed)
            used.update(part[1] for part in groups(*case.calls(numbers)))
        self.assertEqual(used, {0, 1, 2, 3, 64})

    def test_the_least_of_all_in_one_class(self):
        for seed in range(150):
            source = random.Random(seed)
            prices = [source.choice((0, 1, 2, 3, 5, 8, 13, 21)) for k in range(8)]
            offers = [some_offer(source, 0, 13) for k in range(4)]
            calls = offers + [call for k, price in enumerate(prices) for call in (article(k, price), put(0, k, 1))]
            self.assertEqual(last(*calls, sum_of(0)), least_of_all(prices, offers), seed)

    def test_together_it_is_no_dearer(self):
        less = 0
        for seed in range(300):
            case = Case(seed, things=30)
            first, second = case.baskets
            calls = case.calls(first) + case.calls(second, basket=1)[len(case.articles) + len(case.offers):]
            calls += [put(2, number, 1) for number in first + second]
            told = tell(*calls, sum_of(0), sum_of(1), sum_of(2))[-3:]
            self.assertLessEqual(told[2][0], told[0][0] + told[1][0], seed)
            less += told[2][0] < told[0][0] + told[1][0]
        self.assertGreater(less, 50)

    def test_one_offer_more_is_no_dearer(self):
        less = 0
        for seed in range(300):
            case = Case(seed, things=60)
            calls = case.calls(case.baskets[0])
            told = tell(*calls, sum_of(0), case.more, sum_of(0), drop(len(case.offers)), sum_of(0))[-5:]
            self.assertLessEqual(told[2][0], told[0][0], seed)
            self.assertEqual(told[4], told[0], seed)
            less += told[2][0] < told[0][0]
        self.assertGreater(less, 50)

    def test_groups_have_each_thing_once_and_add_up(self):
        for seed in range(300):
            case = Case(seed, things=60)
            numbers = case.baskets[0]
            found = groups(*case.calls(numbers))
            self.assertEqual(sorted(number for part in found for number in part[3:]), sorted(numbers), seed)
            self.assertEqual(sum(part[2] for part in found), last(*case.calls(numbers), sum_of(0)), seed)
            for part in found:
                prices = [case.articles[number][0] for number in part[3:]]
                self.assertEqual(part[0], len(prices))
                if part[1] == 64:
                    self.assertEqual([part[2]], prices)
                else:
                    offer = case.offers[part[1]]
                    self.assertEqual({case.articles[number][1] for number in part[3:]}, {offer[1]})
                    self.assertEqual((part[0], part[2]), (offer[2], price_of(prices, offer)))

    def test_shares_add_up(self):
        for seed in range(300):
            case = Case(seed, things=60)
            calls = case.calls(case.baskets[0])
            there = sorted(set(case.baskets[0]))
            rates = (0, 70, 190, 200)
            told = tell(*calls, sum_of(0), *[tax(0, rate) for rate in rates], *[share(0, number) for number in there])
            shares = [part[1] for part in told[-len(there):]]
            self.assertEqual([sum(shares)], told[len(calls)], seed)
            self.assertEqual(sum(part[1] for part in told[len(calls) + 1:len(calls) + 5]), sum(shares), seed)
            for number, part in zip(there, shares):
                self.assertLessEqual(part, case.articles[number][0] * case.baskets[0].count(number), seed)

    def test_no_share_is_above_its_things_price(self):
        # Each thing is of an article of its own, so that its share is seen by itself.
        for seed in range(200):
            source = random.Random(seed)
            prices = [source.randint(0, 4) for k in range(40)]
            calls = [some_offer(source, 0, 4) for k in range(3)]
            calls += [call for k, price in enumerate(prices) for call in (article(k, price), put(0, k, 1))]
            told = tell(*calls, *[share(0, k) for k in range(40)], sum_of(0))[len(calls):]
            shares = [part[1] for part in told[:40]]
            self.assertTrue(all(0 <= part <= price for part, price in zip(shares, prices)), seed)
            self.assertEqual([sum(shares)], told[40], seed)

    def test_given_back(self):
        for seed in range(300):
            case = Case(seed, things=30)
            numbers = case.baskets[0]
            random.Random(seed).shuffle(numbers)
            calls = case.calls(numbers) + [pay(0)]
            told = tell(*calls, *[call for number in numbers for call in (back(0, number, 1), left(0))])[len(calls) - 1:]
            paid = told[0][1]
            given = 0
            for k in range(len(numbers)):
                self.assertEqual(told[1 + 2 * k][0], 0)
                self.assertGreaterEqual(told[1 + 2 * k][1], 0)
                given += told[1 + 2 * k][1]
                self.assertLessEqual(given, paid, seed)
                self.assertEqual(told[2 + 2 * k], [0, paid - given, len(numbers) - 1 - k], seed)
            self.assertEqual(given, paid, seed)
