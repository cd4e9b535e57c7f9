"""Whole numbers, as all other modules understand them."""


def is_whole(thing):
    """Whether the thing is a whole number: True and False are none."""
    return isinstance(thing, int) and not isinstance(thing, bool)
