"""Long lists of calls, beside a plain model that keeps each thing by itself."""

import functools
import random
import unittest
from fractions import Fraction

from basketcost.baskets import answers
from tests.helper import MOST, Unchanging, flat, split

# Of each, what is within bounds, and what else is tried.
EDGES = {
    "article": ((0, 1, 2, 3, 255), (254, 256, MOST)),
    "price": ((0, 1, 2, 7, 10, 999), (1000000, 1000001, MOST)),
    "sort": ((0, 1, 15), (14, 16, MOST)),
    "rate": ((0, 70, 200, 500), (1, 501, MOST)),
    "n": ((2, 3, 4, 16), (0, 1, 15, 17, MOST)),
    "cost": ((0, 1, 9, 20, 2000), (16000000, 16000001, MOST)),
    "k": ((1, 2, 3), (0, 4, 14, 15, 16, MOST)),
    "offer": (tuple(range(12)), (40, 62, 63, 64, MOST)),
    "basket": ((0, 1, 15), (2, 14, 16, MOST)),
    "many": ((1, 2, 3, 20), (0, 40, 63, 64, 65, MOST)),
    "place": ((0, 1, 2, 3), (10, 63, 64, MOST)),
    "receipt": ((0, 1, 2, 3), (4, 5, 254, 255, 256, MOST)),
}
FORMS = (
    (),
    ("article", "price", "sort", "rate"),
    ("sort", "n", "cost"),
    ("sort", "n", "k"),
    ("offer",),
    ("basket", "article", "many"),
    ("basket", "article", "many"),
    ("basket",),
    ("basket", "place"),
    ("basket", "article"),
    ("basket", "rate"),
    ("basket",),
    ("receipt", "article", "many"),
    ("receipt",),
)
WEIGHTS = (1, 60, 15, 15, 15, 120, 50, 40, 60, 40, 40, 20, 60, 40)


@functools.lru_cache(maxsize=None)
def grouped(row, offers):
    """What a row of (price, article) costs, and its groups as (offer's number, cost, things)."""
    if not row:
        return 0, ()
    best = None
    for number, kind, n, rest in offers + ((64, 3, 1, 0),):
        if n <= len(row):
            cost = rest if kind == 2 else sum(sorted(price for price, article in row[:n])[rest:])
            behind = grouped(row[n:], offers)
            if best is None or cost + behind[0] < best[0]:
                best = (cost + behind[0], ((number, cost, row[:n]),) + behind[1])
    return best


def groups_of(things, offers):
    """The groups of things (article, price, sort, rate) by offers {number: (kind, sort, n, rest)}."""
    found = []
    for sort in range(16):
        row = tuple((thing[1], thing[0]) for thing in sorted(things, key=lambda thing: (-thing[1], thing[0]))
                    if thing[2] == sort)
        there = tuple((number, kind, n, rest) for number, (kind, of, n, rest) in sorted(offers.items()) if of == sort)
        found.extend(grouped(row, there)[1])
    return found


def shares_of(cost, row):
    total = sum(price for price, article in row)
    shares = []
    for k in range(len(row)):
        upto, before = (sum(price for price, article in row[:end]) for end in (k + 1, k))
        shares.append(Fraction(cost * upto, total) // 1 - Fraction(cost * before, total) // 1 if total else 0)
    return shares


class Model:
    def __init__(self):
        self.forget()

    def forget(self):
        self.articles = {}
        self.come = 0
        self.offers = {}
        self.things = []
        self.receipts = []

    def answer(self, call):
        number, given = call[0], call[1:]
        if number == 0:
            self.forget()
            return [0]
        if number in (2, 3):
            return self.offer(number, *given)
        if number in (5, 6):
            return self.move(number, *given)
        return {
            1: self.article, 4: self.drop, 7: self.total, 8: self.group, 9: self.share, 10: self.tax,
            11: self.pay, 12: self.back, 13: self.left,
        }[number](*given)

    def article(self, number, price, sort, rate):
        if number not in range(256) or price not in range(1000001) or sort not in range(16) or rate not in range(501):
            return [-1]
        if number in [thing[1] for thing in self.things]:
            return [-16]
        self.articles[number] = (price, sort, rate)
        return [0]

    def offer(self, kind, sort, n, rest):
        if sort not in range(16) or n not in range(2, 17):
            return [-1]
        if rest not in (range(16000001) if kind == 2 else range(1, n)):
            return [-1]
        if self.come == 64:
            return [-28]
        self.offers[self.come] = (kind, sort, n, rest)
        self.come += 1
        return [self.come - 1]

    def drop(self, number):
        if number not in self.offers:
            return [-2]
        del self.offers[number]
        return [0]

    def move(self, kind, basket, article, many):
        if basket not in range(16) or article not in range(256) or many == 0:
            return [-1]
        thing = (basket, article)
        if kind == 6:
            if self.things.count(thing) < many:
                return [-33]
            for k in range(many):
                self.things.remove(thing)
            return [0]
        if article not in self.articles:
            return [-2]
        if len(self.inside(basket)) + many > 64:
            return [-28]
        self.things.extend([thing] * many)
        return [0]

    def inside(self, basket):
        return [(article,) + self.articles[article] for where, article in self.things if where == basket]

    def groups(self, basket):
        return groups_of(self.inside(basket), self.offers)

    def total(self, basket):
        if basket not in range(16):
            return [-1]
        return [sum(cost for number, cost, row in self.groups(basket))]

    def group(self, basket, k):
        if basket not in range(16):
            return [-1]
        found = self.groups(basket)
        if k not in range(len(found)):
            return [0]
        number, cost, row = found[k]
        return [len(row), number, cost] + [article for price, article in row]

    def shares(self, basket):
        """(article, share) of each thing."""
        return [(thing[1], share) for number, cost, row in self.groups(basket)
                for thing, share in zip(row, shares_of(cost, row))]

    def share(self, basket, article):
        if basket not in range(16) or article not in range(256):
            return [-1]
        if (basket, article) not in self.things:
            return [-2]
        return [0, sum(share for number, share in self.shares(basket) if number == article)]

    def tax(self, basket, rate):
        if basket not in range(16) or rate not in range(501):
            return [-1]
        amount = sum(share for number, share in self.shares(basket) if self.articles[number][2] == rate)
        # Of a Fraction, round takes a half to the even one.
        return [0, amount, round(Fraction(amount * rate, 1000 + rate))]

    def pay(self, basket):
        if basket not in range(16):
            return [-1]
        things = self.inside(basket)
        if not things:
            return [-61]
        if len(self.receipts) == 256:
            return [-28]
        paid = self.total(basket)[0]
        self.receipts.append({"things": things, "offers": dict(self.offers), "paid": paid, "given": []})
        self.things = [thing for thing in self.things if thing[0] != basket]
        return [len(self.receipts) - 1, paid]

    def back(self, number, article, many):
        if article not in range(256) or many == 0:
            return [-1]
        if number not in range(len(self.receipts)):
            return [-2]
        receipt = self.receipts[number]
        same = [thing for thing in receipt["things"] if thing[0] == article]
        if len(same) < many:
            return [-33]
        for thing in same[:many]:
            receipt["things"].remove(thing)
        cost = sum(cost for number, cost, row in groups_of(receipt["things"], receipt["offers"]))
        receipt["given"].append(max(0, receipt["paid"] - sum(receipt["given"]) - cost))
        return [0, receipt["given"][-1]]

    def left(self, number):
        if number not in range(len(self.receipts)):
            return [-2]
        receipt = self.receipts[number]
        return [0, receipt["paid"] - sum(receipt["given"]), len(receipt["things"])]


def some_call(source, weights):
    number = source.choices(range(14), weights=weights)[0]
    # Mostly what is within bounds, so that what the calls do is seen as well as what they refuse.
    near = source.random() < 0.8
    return [number] + [source.choice(EDGES[name][0] if near else sum(EDGES[name], ())) for name in FORMS[number]]


class ModelTest(unittest.TestCase):
    def check(self, seed, weights, many):
        """Which calls were answered how, refusals apart."""
        source = random.Random(seed)
        calls = [[0]] + [some_call(source, weights) for k in range(many)]
        model = Model()
        told = [model.answer(call) for call in calls]
        self.assertEqual(split(answers(Unchanging(flat(calls)))), told, seed)
        return {(call[0], min(answer[0], 0)) for call, answer in zip(calls, told)}

    def test_answers_are_the_models(self):
        seen = set()
        for seed in range(80):
            seen |= self.check(seed, WEIGHTS, 700)
            grouped.cache_clear()
        # Offers and receipts come until there's no room for more.
        for seed in range(4):
            seen |= self.check(seed, (0, 30, 10, 10, 1, 120, 5, 1, 1, 1, 1, 80, 10, 10), 2500)
            grouped.cache_clear()
        self.assertEqual(seen, {
            (0, 0), (1, 0), (1, -1), (1, -16), (2, 0), (2, -1), (2, -28), (3, 0), (3, -1), (3, -28),
            (4, 0), (4, -2), (5, 0), (5, -1), (5, -2), (5, -28), (6, 0), (6, -1), (6, -33),
            (7, 0), (7, -1), (8, 0), (8, -1), (9, 0), (9, -1), (9, -2), (10, 0), (10, -1),
            (11, 0), (11, -1), (11, -28), (11, -61), (12, 0), (12, -1), (12, -2), (12, -33), (13, 0), (13, -2),
        })
