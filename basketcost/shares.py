"""Each thing's share of what its group costs, and the tax in a sum."""


def shares_by_article(groups, articles):
    """By article, the shares of all its things together."""
    shares = {}
    for offer, cost, row in groups:
        prices = [articles[article][0] for article in row]
        for article, share in zip(row, shares_of(cost, prices)):
            shares[article] = shares.get(article, 0) + share
    return shares


def shares_of(cost, prices):
    total = sum(prices)
    if total == 0:
        return [0] * len(prices)
    shares = []
    price_so_far = 0
    cost_so_far = 0
    for price in prices:
        price_so_far += price
        # Cut sums, not cut shares, so that what is cut off one share goes into a later one.
        cost_with_it = cost * price_so_far // total
        shares.append(cost_with_it - cost_so_far)
        cost_so_far = cost_with_it
    return shares


def tax_in(amount, rate):
    parts = 1000 + rate
    tax = amount * rate // parts
    rest = amount * rate % parts
    if rest * 2 > parts or (rest * 2 == parts and tax % 2 == 1):
        return tax + 1
    return tax
