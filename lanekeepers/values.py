"""The plain values that all forms are made of: counts, and lists as they may be passed."""


def is_count(value):
    # True and False are ints to Python, but are never accepted as 1 and 0.
    return isinstance(value, int) and not isinstance(value, bool) and value >= 0


def is_row(value):
    """Whether the value may be passed where the document says list."""
    return isinstance(value, (list, tuple))
