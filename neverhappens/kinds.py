"""Kinds: which ones are small, large or discrete, and their values."""

# A number kind whose ends lie farther apart than this is large.
WIDEST_SMALL = 7


def is_small(kind):
    """True for flags and for numbers with few values."""
    return kind[0] == "flag" or kind[0] == "num" and kind[2] - kind[1] <= WIDEST_SMALL


def is_large(kind):
    """True for numbers with many values."""
    return kind[0] == "num" and kind[2] - kind[1] > WIDEST_SMALL


def is_discrete(kind):
    """True for small kinds and for references."""
    return kind[0] == "ref" or is_small(kind)


def kind_values(kind):
    """The tuple of the values of a small kind, in order."""
    if kind[0] == "flag":
        return (False, True)
    return tuple(range(kind[1], kind[2] + 1))


def start_value(kind):
    """The value that a variable of this kind has at the start."""
    if kind[0] == "flag":
        return False
    if kind[0] == "ref":
        return None
    return max(kind[1], min(kind[2], 0))


def is_outside(kind, value):
    """True if the kind is a number kind and the value lies outside its range."""
    return kind[0] == "num" and not kind[1] <= value <= kind[2]
