"""The five deeds on two numbers."""

from callsmith.errors import ByNought, TooGreat

MOST = 1000000000000


def reckoned(word, one, other):
    """The number that the deed of that word makes of two numbers."""
    number = unbounded(word, one, other)
    if number < -MOST or number > MOST:
        raise TooGreat(f"{word} comes to a number beyond {MOST}")
    return number


def unbounded(word, one, other):
    """What the deed comes to, however great it is."""
    if word == "sum":
        return one + other
    if word == "less":
        return one - other
    if word == "times":
        return one * other
    if word == "part":
        return parted(one, other)
    return 1 if one < other else 0


def parted(one, other):
    """The first number divided by the second, rounded down."""
    if other == 0:
        raise ByNought("a number is parted by nought")
    return one // other
