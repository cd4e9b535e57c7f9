"""Whole numbers, as all other modules understand them."""


def is_whole(thing):
    """Whether the thing is a whole number: True and False are none."""
    return isinstance(thing, int) and not isinstance(thing, bool)


def is_numbers(thing):
    """Whether the thing, of any kind, is a tuple of whole numbers."""
    return isinstance(thing, tuple) and all(is_whole(number) for number in thing)


def common_divisor(numbers):
    """The greatest number that divides all the numbers, of which one at least is not 0."""
    found = 0
    for number in numbers:
        rest = abs(number)
        while rest:
            found, rest = rest, found % rest
    return found
