"""The interface: a list of calls in, a list of their answers out."""

from basketcost.shop import Shop

BEGIN = 0
ARTICLE = 1
BUNDLE = 2
GIFT = 3
DROP = 4
PUT = 5
TAKE = 6
SUM_OF = 7
GROUP = 8
SHARE = 9
TAX = 10
PAY = 11
BACK = 12

# At each call's number, how many whole numbers follow it.
SIZES = (0, 4, 3, 3, 1, 3, 3, 1, 2, 2, 2, 1, 3, 1)


def answers(calls):
    shop = Shop()
    told = []
    at = 0
    while at < len(calls):
        behind = at + 1 + SIZES[calls[at]]
        answer = answer_of(shop, calls[at], calls[at + 1:behind])
        told.append(len(answer))
        told.extend(answer)
        at = behind
    return told


def answer_of(shop, call, given):
    if call == BEGIN:
        return [shop.begin()]
    if call == ARTICLE:
        return [shop.article(given[0], given[1], given[2], given[3])]
    if call == BUNDLE:
        return [shop.bundle(given[0], given[1], given[2])]
    if call == GIFT:
        return [shop.gift(given[0], given[1], given[2])]
    if call == DROP:
        return [shop.drop(given[0])]
    if call == PUT:
        return [shop.put(given[0], given[1], given[2])]
    if call == TAKE:
        return [shop.take(given[0], given[1], given[2])]
    return answer_of_costs(shop, call, given)


def answer_of_costs(shop, call, given):
    if call == SUM_OF:
        return [shop.sum_of(given[0])]
    if call == GROUP:
        return shop.group(given[0], given[1])
    if call == SHARE:
        return shop.share(given[0], given[1])
    if call == TAX:
        return shop.tax(given[0], given[1])
    if call == PAY:
        return shop.pay(given[0])
    if call == BACK:
        return shop.back(given[0], given[1], given[2])
    # SIZES has no other number left: this is left, 13.
    return shop.left(given[0])
