"""What a thing is that was handed in, whatever it may be."""


def is_whole(thing):
    """Whether it is a whole number."""
    # For Python True and False are ints; here they are none.
    return isinstance(thing, int) and not isinstance(thing, bool)


def is_whole_within(thing, least, most):
    """Whether it is a whole number from least to most."""
    return is_whole(thing) and least <= thing <= most
