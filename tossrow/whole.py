"""What counts as a whole number."""


def is_whole(thing):
    """Tell whether the thing is a whole number."""
    # Python takes True and False for numbers, the document doesn't.
    return isinstance(thing, int) and not isinstance(thing, bool)
