"""What was paid for, and what of it is brought back."""

from basketcost.grouping import cost_of, groups_of
from basketcost.things import take_out


class Receipt:
    """things: those that are left. articles, offers: as they were when it was paid. given: what was given back."""

    def __init__(self, things, articles, offers, paid):
        # Copies: the shop's own change afterwards.
        self.things = dict(things)
        self.articles = dict(articles)
        self.offers = list(offers)
        self.paid = paid
        self.given = 0

    def bring_back(self, article, many):
        """What is given back for them; None, and nothing changes, if there aren't so many left."""
        if not take_out(self.things, article, many):
            return None
        cost = cost_of(groups_of(self.things, self.articles, self.offers))
        # The things that are left may cost more than all did together.
        given = max(self.paid - self.given - cost, 0)
        self.given += given
        return given
