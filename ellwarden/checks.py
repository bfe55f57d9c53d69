"""What kinds of values are: integers and rows."""


def is_integer(thing):
    """Whether it is an integer; True and False are none."""
    return isinstance(thing, int) and not isinstance(thing, bool)


def is_within(thing, least, greatest):
    """Whether it is an integer from least to greatest."""
    return is_integer(thing) and least <= thing <= greatest


def is_row(thing):
    """Whether it is a list or a tuple."""
    return isinstance(thing, (list, tuple))


def is_tuple_of(thing, many):
    """Whether it is a tuple with so many items."""
    return isinstance(thing, tuple) and len(thing) == many
