"""What a thing that is handed in is, asked alike by all modules."""


def is_whole(thing):
    """Whether the thing is a whole number."""
    # Python counts truths among its ints, the document doesn't.
    return isinstance(thing, int) and not isinstance(thing, bool)


def is_row(thing):
    """Whether the thing is a list or a tuple."""
    return isinstance(thing, (list, tuple))


def are_wholes(thing):
    """Whether the thing is a tuple of whole numbers."""
    return isinstance(thing, tuple) and all([is_whole(number) for number in thing])
