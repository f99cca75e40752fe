"""The plain values that all forms are made of: counts, lists as they may be passed, copies."""


def is_count(value):
    # True and False are ints to Python, but are never accepted as 1 and 0.
    return isinstance(value, int) and not isinstance(value, bool) and value >= 0


def is_row(value):
    """Whether the value may be passed where the document says list."""
    return isinstance(value, (list, tuple))


def copied(value):
    """The value, with new lists and tuples in place of all that are in it."""
    if isinstance(value, list):
        return [copied(part) for part in value]
    if isinstance(value, tuple):
        return tuple([copied(part) for part in value])
    return value
