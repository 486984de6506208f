"""The articles, offers, baskets and receipts, and a method for each call."""

from basketcost.grouping import cost_of, groups_of
from basketcost.receipts import Receipt
from basketcost.refusals import EMPTY, IN_A_BASKET, NO_ROOM, NOT_AS_TOLD, NOT_SO_MANY, NOT_THERE
from basketcost.shares import shares_by_article, tax_in
from basketcost.things import how_many, take_out

LAST_ARTICLE = 255
LAST_SORT = 15
LAST_BASKET = 15
MOST_PRICE = 1000000
MOST_RATE = 500
LEAST_GROUP = 2
MOST_GROUP = 16
MOST_BUNDLE_PRICE = 16000000
MOST_OFFERS = 64
MOST_THINGS = 64
MOST_RECEIPTS = 256


def is_article(number, price, sort, rate):
    return number <= LAST_ARTICLE and price <= MOST_PRICE and sort <= LAST_SORT and rate <= MOST_RATE


def is_offer(sort, n):
    return sort <= LAST_SORT and LEAST_GROUP <= n <= MOST_GROUP


def is_move(basket, article, many):
    return basket <= LAST_BASKET and article <= LAST_ARTICLE and many > 0


class Shop:
    """A call that refuses answers a number below 0 and changes nothing.

    begin, article, bundle, gift, drop, put, take and sum_of answer a number, the others a list of numbers.

    articles: by number, (price, sort, rate).
    offers: in the order in which they came, ("bundle", sort, n, price) or ("gift", sort, n, k), None if dropped.
    baskets: for each, how many by article; an article of which it has none is no key.
    receipts: in the order in which they came.
    grouped: by basket, its groups, once they were asked for and until its things or the offers change.
    """

    def __init__(self):
        self.begin()

    def begin(self):
        self.articles = {}
        self.offers = []
        self.baskets = [{} for number in range(LAST_BASKET + 1)]
        self.receipts = []
        self.grouped = {}
        return 0

    def article(self, number, price, sort, rate):
        if not is_article(number, price, sort, rate):
            return NOT_AS_TOLD
        if any([number in things for things in self.baskets]):
            return IN_A_BASKET
        self.articles[number] = (price, sort, rate)
        return 0

    def bundle(self, sort, n, price):
        if not is_offer(sort, n) or price > MOST_BUNDLE_PRICE:
            return NOT_AS_TOLD
        return self.add_offer(("bundle", sort, n, price))

    def gift(self, sort, n, k):
        if not is_offer(sort, n) or not 1 <= k < n:
            return NOT_AS_TOLD
        return self.add_offer(("gift", sort, n, k))

    def add_offer(self, offer):
        # Dropped offers keep their places, so the length tells how many have come.
        if len(self.offers) >= MOST_OFFERS:
            return NO_ROOM
        self.offers.append(offer)
        self.grouped = {}
        return len(self.offers) - 1

    def drop(self, number):
        if number >= len(self.offers) or self.offers[number] is None:
            return NOT_THERE
        self.offers[number] = None
        self.grouped = {}
        return 0

    def put(self, basket, article, many):
        if not is_move(basket, article, many):
            return NOT_AS_TOLD
        if article not in self.articles:
            return NOT_THERE
        things = self.baskets[basket]
        if how_many(things) + many > MOST_THINGS:
            return NO_ROOM
        things[article] = things.get(article, 0) + many
        self.grouped.pop(basket, None)
        return 0

    def take(self, basket, article, many):
        if not is_move(basket, article, many):
            return NOT_AS_TOLD
        if not take_out(self.baskets[basket], article, many):
            return NOT_SO_MANY
        self.grouped.pop(basket, None)
        return 0

    def groups_in(self, basket):
        # Kept, as many calls may ask of a full basket in which nothing changes.
        if basket not in self.grouped:
            self.grouped[basket] = groups_of(self.baskets[basket], self.articles, self.offers)
        return self.grouped[basket]

    def sum_of(self, basket):
        if basket > LAST_BASKET:
            return NOT_AS_TOLD
        return cost_of(self.groups_in(basket))

    def group(self, basket, k):
        if basket > LAST_BASKET:
            return [NOT_AS_TOLD]
        groups = self.groups_in(basket)
        if k >= len(groups):
            return [0]
        row = groups[k][2]
        return [len(row), groups[k][0], groups[k][1]] + row

    def share(self, basket, article):
        if basket > LAST_BASKET or article > LAST_ARTICLE:
            return [NOT_AS_TOLD]
        if article not in self.baskets[basket]:
            return [NOT_THERE]
        return [0, shares_by_article(self.groups_in(basket), self.articles)[article]]

    def tax(self, basket, rate):
        if basket > LAST_BASKET or rate > MOST_RATE:
            return [NOT_AS_TOLD]
        shares = shares_by_article(self.groups_in(basket), self.articles)
        amount = sum([shares[article] for article in shares if self.articles[article][2] == rate])
        return [0, amount, tax_in(amount, rate)]

    def pay(self, basket):
        if basket > LAST_BASKET:
            return [NOT_AS_TOLD]
        things = self.baskets[basket]
        if len(things) == 0:
            return [EMPTY]
        if len(self.receipts) >= MOST_RECEIPTS:
            return [NO_ROOM]
        cost = self.sum_of(basket)
        self.receipts.append(Receipt(things, self.articles, self.offers, cost))
        self.baskets[basket] = {}
        self.grouped.pop(basket, None)
        return [len(self.receipts) - 1, cost]

    def back(self, number, article, many):
        if article > LAST_ARTICLE or many == 0:
            return [NOT_AS_TOLD]
        if number >= len(self.receipts):
            return [NOT_THERE]
        given = self.receipts[number].bring_back(article, many)
        if given is None:
            return [NOT_SO_MANY]
        return [0, given]

    def left(self, number):
        if number >= len(self.receipts):
            return [NOT_THERE]
        receipt = self.receipts[number]
        return [0, receipt.paid - receipt.given, how_many(receipt.things)]
