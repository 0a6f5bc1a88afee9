"""Whole numbers, as all parts of the package take them."""


def is_whole(thing):
    """Whether thing is an int that is no truth."""
    # Python counts True and False among the integers; the document does not.
    return isinstance(thing, int) and not isinstance(thing, bool)


def is_between(thing, least, most):
    """Whether thing is a whole number from least to most."""
    return is_whole(thing) and least <= thing <= most


def common_measure(one, other):
    """The greatest number that divides both of two numbers above 0."""
    while other != 0:
        one, other = other, one % other
    return one
