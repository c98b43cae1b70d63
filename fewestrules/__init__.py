"""Fewestrules: sort orders with levels, and the fewest rules between them."""
