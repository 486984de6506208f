"""How things are grouped by offers, and what the groups cost.

A group is (the offer's number, what it costs, its things' articles in the row's order).
A way to make one is (the offer's number, n, paid, price): of n things the first so many are paid, and the price
beside them. A bundle's n things have none that is paid by itself, a gift has no price, and a thing without an offer
is paid by itself: so all three are reckoned alike.
"""

WITHOUT_OFFER = 64


def cost_of(groups):
    return sum([cost for offer, cost, row in groups])


def groups_of(things, articles, offers):
    """All groups, class after class, in their rows' order."""
    rows = rows_of(things, articles)
    groups = []
    for sort in rows:
        prices = [articles[article][0] for article in rows[sort]]
        groups.extend(groups_of_row(rows[sort], prices, ways_of(sort, offers)))
    return groups


def rows_of(things, articles):
    """By class, the lesser first, its things' articles: dearer ones first, of like prices the lesser."""
    ranked = sorted([(articles[article][1], -articles[article][0], article) for article in things])
    rows = {}
    for sort, minus_price, article in ranked:
        rows.setdefault(sort, []).extend([article] * things[article])
    return rows


def ways_of(sort, offers):
    """All ways for things of the class, in the order in which they are tried."""
    ways = []
    for number, offer in enumerate(offers):
        if offer is not None and offer[1] == sort:
            ways.append(way_of(number, offer))
    ways.append((WITHOUT_OFFER, 1, 1, 0))
    return ways


def way_of(number, offer):
    n = offer[2]
    if offer[0] == "bundle":
        return (number, n, 0, offer[3])
    return (number, n, n - offer[3], 0)


def groups_of_row(row, prices, ways):
    best = best_ways(prices, ways)
    groups = []
    at = 0
    while at < len(row):
        way = best[at]
        behind = at + way[1]
        cost = way[3] + sum(prices[at:at + way[2]])
        groups.append((way[0], cost, row[at:behind]))
        at = behind
    return groups


def best_ways(prices, ways):
    """For each place in the row, the way that is taken if a group begins there."""
    size = len(prices)
    ahead = sums_ahead(prices)
    least = [0] * (size + 1)
    best = [None] * size
    # What the rest behind a group costs must be known first: so from the row's end on.
    for at in range(size - 1, -1, -1):
        fitting = [way for way in ways if at + way[1] <= size]
        costs = [price + ahead[at + paid] - ahead[at] + least[at + n] for number, n, paid, price in fitting]
        least[at] = min(costs)
        # Of ways that cost the same, index finds the first.
        best[at] = fitting[costs.index(least[at])]
    return best


def sums_ahead(prices):
    """For each place in the row, and the one behind its end, the sum of all prices ahead of it."""
    sums = [0]
    for price in prices:
        sums.append(sums[-1] + price)
    return sums
