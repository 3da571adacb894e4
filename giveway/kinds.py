"""Kinds of things, told of anything."""


def is_whole(thing):
    """Whether it is an int that is no truth."""
    return isinstance(thing, int) and not isinstance(thing, bool)


def is_within(thing, least, most):
    """Whether it is a whole number from least to most."""
    return is_whole(thing) and least <= thing <= most


def is_tuple(thing, least, most):
    """Whether it is a tuple of least to most parts."""
    return isinstance(thing, tuple) and least <= len(thing) <= most
