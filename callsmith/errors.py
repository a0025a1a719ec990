"""The refusals of Callsmith."""


class SmithError(ValueError):
    """Any refusal."""


class NameTwice(SmithError):
    """Two functions, or two names that a function takes, are alike."""


class NoSuchName(SmithError):
    """A name that stands for nothing where it is read."""


class NoSuchFunction(SmithError):
    """A function that the program does not have."""


class WrongCount(SmithError):
    """A function is given another number of things than it takes."""


class TooTall(SmithError):
    """A tree stands deeper in its body than a body may be high."""


class ByNought(SmithError):
    """A number is to be parted by nought."""


class TooGreat(SmithError):
    """A deed comes to a number beyond the greatest or the least one."""


class TooDeep(SmithError):
    """A call where too many calls are going on already."""


class Dry(SmithError):
    """A call where the fuel is used up."""
