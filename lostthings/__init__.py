"""Whose it may be: the things of an office and the claims that are made to them."""
