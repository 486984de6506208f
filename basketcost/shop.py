"""The articles, offers and baskets, and the calls that change them."""

from basketcost.refusals import IN_A_BASKET, NO_ROOM, NOT_AS_TOLD, NOT_SO_MANY, NOT_THERE

LAST_ARTICLE = 255
LAST_SORT = 15
LAST_BASKET = 15
MOST_PRICE = 1000000
MOST_RATE = 500
LEAST_GROUP = 2
MOST_GROUP = 16
MOST_BUNDLE_PRICE = 16000000
MOST_OFFERS = 64
MOST_THINGS = 64


def is_article(number, price, sort, rate):
    return number <= LAST_ARTICLE and price <= MOST_PRICE and sort <= LAST_SORT and rate <= MOST_RATE


def is_offer(sort, n):
    return sort <= LAST_SORT and LEAST_GROUP <= n <= MOST_GROUP


def is_move(basket, article, many):
    return basket <= LAST_BASKET and article <= LAST_ARTICLE and many > 0


class Shop:
    """Each call answers 0 or a number, or refuses with a number below 0 and then changes nothing.

    articles: by number, (price, sort, rate).
    offers: in the order in which they came, ("bundle", sort, n, price) or ("gift", sort, n, k), None if dropped.
    baskets: for each, how many by article; an article of which it has none is no key.
    """

    def __init__(self):
        self.begin()

    def begin(self):
        self.articles = {}
        self.offers = []
        self.baskets = [{} for number in range(LAST_BASKET + 1)]
        return 0

    def article(self, number, price, sort, rate):
        if not is_article(number, price, sort, rate):
            return NOT_AS_TOLD
        if any([number in things for things in self.baskets]):
            return IN_A_BASKET
        self.articles[number] = (price, sort, rate)
        return 0

    def bundle(self, sort, n, price):
        if not is_offer(sort, n) or price > MOST_BUNDLE_PRICE:
            return NOT_AS_TOLD
        return self.add_offer(("bundle", sort, n, price))

    def gift(self, sort, n, k):
        if not is_offer(sort, n) or not 1 <= k < n:
            return NOT_AS_TOLD
        return self.add_offer(("gift", sort, n, k))

    def add_offer(self, offer):
        # Dropped offers keep their places, so the length tells how many have come.
        if len(self.offers) >= MOST_OFFERS:
            return NO_ROOM
        self.offers.append(offer)
        return len(self.offers) - 1

    def drop(self, number):
        if number >= len(self.offers) or self.offers[number] is None:
            return NOT_THERE
        self.offers[number] = None
        return 0

    def put(self, basket, article, many):
        if not is_move(basket, article, many):
            return NOT_AS_TOLD
        if article not in self.articles:
            return NOT_THERE
        things = self.baskets[basket]
        if sum(things.values()) + many > MOST_THINGS:
            return NO_ROOM
        things[article] = things.get(article, 0) + many
        return 0

    def take(self, basket, article, many):
        if not is_move(basket, article, many):
            return NOT_AS_TOLD
        things = self.baskets[basket]
        rest = things.get(article, 0) - many
        if rest < 0:
            return NOT_SO_MANY
        if rest == 0:
            things.pop(article)
        else:
            things[article] = rest
        return 0
