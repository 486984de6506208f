"""Things as baskets and receipts keep them: how many by article; an article of which there is none is no key."""


def how_many(things):
    return sum(things.values())


def take_out(things, article, many):
    """Whether there were so many; if not, nothing is taken."""
    rest = things.get(article, 0) - many
    if rest < 0:
        return False
    if rest == 0:
        things.pop(article)
    else:
        things[article] = rest
    return True
