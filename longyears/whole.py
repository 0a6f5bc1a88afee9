"""Whole numbers, as all parts of the package take them."""


def is_whole(thing):
    """Whether thing is an int that is no truth."""
    # Python counts True and False among the integers; the document does not.
    return isinstance(thing, int) and not isinstance(thing, bool)


def is_between(thing, least, most):
    """Whether thing is a whole number from least to most."""
    return is_whole(thing) and least <= thing <= most


def common_measure(one, other):
    """The greatest number that divides both of two numbers from 0 on, of which one at least is above 0."""
    while other != 0:
        one, other = other, one % other
    return one


def undoing_factor(number, ring):
    """The factor by which number leaves by ring what 1 leaves, where no number above 1 divides both."""
    one, other = number, ring
    times_one, times_other = 1, 0
    # All along one is times_one times number, and other times_other times number, but for whole rings.
    while other != 0:
        whole = one // other
        one, other = other, one - whole * other
        times_one, times_other = times_other, times_one - whole * times_other
    return times_one % ring
