"""Calls by their names, and answers call by call."""

from basketcost.baskets import answers

MOST = 4294967295


class Unchanging(list):
    """A list that fails as soon as somebody changes it, even for a while."""

    def refuse(self, *given, **named):
        raise AssertionError("the list that was handed in is changed")

    __setitem__ = __delitem__ = __iadd__ = __imul__ = refuse
    append = clear = extend = insert = pop = remove = reverse = sort = refuse


def begin():
    return [0]


def article(number, price=100, sort=0, rate=0):
    return [1, number, price, sort, rate]


def bundle(sort, n, price):
    return [2, sort, n, price]


def gift(sort, n, k):
    return [3, sort, n, k]


def drop(offer):
    return [4, offer]


def put(basket, number, many):
    return [5, basket, number, many]


def take(basket, number, many):
    return [6, basket, number, many]


def sum_of(basket):
    return [7, basket]


def group(basket, k):
    return [8, basket, k]


def share(basket, number):
    return [9, basket, number]


def tax(basket, rate):
    return [10, basket, rate]


def pay(basket):
    return [11, basket]


def back(receipt, number, many):
    return [12, receipt, number, many]


def left(receipt):
    return [13, receipt]


def flat(calls):
    return [number for call in calls for number in call]


def split(told):
    """The answers, each as a list, of what was given back."""
    parts = []
    at = 0
    while at < len(told):
        behind = at + 1 + told[at]
        if told[at] < 1 or behind > len(told):
            raise AssertionError(f"not in the form of answers: {told!r}")
        parts.append(told[at + 1:behind])
        at = behind
    return parts


def tell(*calls):
    """Each call's whole answer, begin ahead of them not told."""
    parts = split(answers(Unchanging(flat([begin()] + list(calls)))))
    if parts[0] != [0] or len(parts) != len(calls) + 1:
        raise AssertionError(f"not one answer a call: {parts!r}")
    return parts[1:]


def ask(*calls):
    """The first number of each call's answer."""
    return [part[0] for part in tell(*calls)]


def last(*calls):
    return ask(*calls)[-1]


def groups(*calls, basket=0):
    """All groups of a basket after these calls."""
    told = tell(*calls, *[group(basket, k) for k in range(65)])[len(calls):]
    found = told[:told.index([0])]
    if any(part != [0] for part in told[len(found):]):
        raise AssertionError(f"a group behind the last: {told!r}")
    return found


def basket_of(*prices, sort=0, first=0):
    """Calls by which basket 0 has a thing for each price, of articles from the first on."""
    calls = []
    for number, price in enumerate(prices, start=first):
        calls += [article(number, price, sort), put(0, number, 1)]
    return calls
