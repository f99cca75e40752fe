"""Carts on single lanes, keepers with books, and when nobody can ever be stuck."""
