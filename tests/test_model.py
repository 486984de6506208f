"""Long lists of calls, beside a plain model that keeps each thing by itself."""

import random
import unittest

from basketcost.baskets import answers
from tests.helper import MOST, Unchanging, flat, split

# Of each, four that are mostly within bounds first.
EDGES = {
    "article": (0, 1, 2, 3, 254, 255, 256, MOST),
    "price": (0, 1, 999, 1000000, 1000001, MOST),
    "sort": (0, 1, 14, 15, 16, MOST),
    "rate": (0, 1, 70, 500, 501, MOST),
    "n": (2, 3, 15, 16, 0, 1, 17, MOST),
    "cost": (0, 1, 999, 16000000, 16000001, MOST),
    "k": (1, 2, 14, 15, 0, 3, 16, MOST),
    "offer": tuple(range(8)) + (40, 62, 63, 64, MOST),
    "basket": (0, 1, 2, 14, 15, 16, MOST),
    "many": (1, 2, 3, 20, 0, 40, 63, 64, 65, MOST),
}
FORMS = (
    (),
    ("article", "price", "sort", "rate"),
    ("sort", "n", "cost"),
    ("sort", "n", "k"),
    ("offer",),
    ("basket", "article", "many"),
    ("basket", "article", "many"),
)


class Model:
    def __init__(self):
        self.forget()

    def forget(self):
        self.known = set()
        self.come = 0
        self.there = set()
        self.things = []

    def answer(self, call):
        number, given = call[0], call[1:]
        if number == 0:
            self.forget()
            return 0
        if number == 1:
            return self.article(*given)
        if number in (2, 3):
            return self.offer(number, *given)
        if number == 4:
            return self.drop(*given)
        return self.move(number, *given)

    def article(self, number, price, sort, rate):
        if number not in range(256) or price not in range(1000001) or sort not in range(16) or rate not in range(501):
            return -1
        if number in [thing[1] for thing in self.things]:
            return -16
        self.known.add(number)
        return 0

    def offer(self, kind, sort, n, rest):
        if sort not in range(16) or n not in range(2, 17):
            return -1
        if rest not in (range(16000001) if kind == 2 else range(1, n)):
            return -1
        if self.come == 64:
            return -28
        self.there.add(self.come)
        self.come += 1
        return self.come - 1

    def drop(self, number):
        if number not in self.there:
            return -2
        self.there.remove(number)
        return 0

    def move(self, kind, basket, article, many):
        if basket not in range(16) or article not in range(256) or many == 0:
            return -1
        thing = (basket, article)
        if kind == 6:
            if self.things.count(thing) < many:
                return -33
            for k in range(many):
                self.things.remove(thing)
            return 0
        if article not in self.known:
            return -2
        if len([other for other in self.things if other[0] == basket]) + many > 64:
            return -28
        self.things.extend([thing] * many)
        return 0


def some_call(source):
    number = source.choices(range(7), weights=(1, 60, 60, 60, 60, 120, 100))[0]
    # Mostly what is within bounds, so that what the calls do is seen as well as what they refuse.
    near = source.random() < 0.7
    return [number] + [source.choice(EDGES[name][:4] if near else EDGES[name]) for name in FORMS[number]]


class ModelTest(unittest.TestCase):
    def test_answers_are_the_models(self):
        seen = set()
        for seed in range(60):
            source = random.Random(seed)
            calls = [[0]] + [some_call(source) for k in range(700)]
            model = Model()
            told = [[model.answer(call)] for call in calls]
            self.assertEqual(split(answers(Unchanging(flat(calls)))), told, seed)
            seen.update((call[0], min(answer[0], 0)) for call, answer in zip(calls, told))
        self.assertEqual(seen, {
            (0, 0), (1, 0), (1, -1), (1, -16), (2, 0), (2, -1), (2, -28), (3, 0), (3, -1), (3, -28),
            (4, 0), (4, -2), (5, 0), (5, -1), (5, -2), (5, -28), (6, 0), (6, -1), (6, -33),
        })
