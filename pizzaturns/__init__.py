"""A pizza shared by turns: see pizzaturns.slices.answers."""
