"""What a basket costs: see basketcost.baskets."""
