"""Calls by their names, and answers call by call."""

from basketcost.baskets import answers

MOST = 4294967295


class Unchanging(list):
    """A list that fails as soon as somebody changes it, even for a while."""

    def refuse(self, *given, **named):
        raise AssertionError("the list that was handed in is changed")

    __setitem__ = __delitem__ = __iadd__ = __imul__ = refuse
    append = clear = extend = insert = pop = remove = reverse = sort = refuse


def begin():
    return [0]


def article(number, price=100, sort=0, rate=0):
    return [1, number, price, sort, rate]


def bundle(sort, n, price):
    return [2, sort, n, price]


def gift(sort, n, k):
    return [3, sort, n, k]


def drop(offer):
    return [4, offer]


def put(basket, number, many):
    return [5, basket, number, many]


def take(basket, number, many):
    return [6, basket, number, many]


def flat(calls):
    return [number for call in calls for number in call]


def split(told):
    """The answers, each as a list, of what was given back."""
    parts = []
    at = 0
    while at < len(told):
        behind = at + 1 + told[at]
        if told[at] < 1 or behind > len(told):
            raise AssertionError(f"not in the form of answers: {told!r}")
        parts.append(told[at + 1:behind])
        at = behind
    return parts


def ask(*calls):
    """The first number of each call's answer, begin ahead of them not told."""
    parts = split(answers(Unchanging(flat([begin()] + list(calls)))))
    if parts[0] != [0] or len(parts) != len(calls) + 1:
        raise AssertionError(f"not one answer a call: {parts!r}")
    return [part[0] for part in parts[1:]]


def last(*calls):
    return ask(*calls)[-1]
