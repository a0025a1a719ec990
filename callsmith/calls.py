"""What telling and the machine share: which calls are made, and what an outcome is."""

from callsmith.errors import ByNought, Dry, TooDeep, TooGreat

MOST_GOING = 20


def check_made(going, made, fuel):
    """Refuse one more call, where `going` calls are going on and `made` were made."""
    if going >= MOST_GOING:
        raise TooDeep(f"{going} calls are going on already")
    if made >= fuel:
        raise Dry(f"{made} calls were made already")


def taken(stack, count):
    """So many numbers from the top of a stack, the lowest first; they leave it."""
    # Counted from below, as a slice from -0 on would take all of them.
    cut = len(stack) - count
    numbers = stack[cut:]
    del stack[cut:]
    return numbers


def outcome_of(work):
    """The outcome of a telling or of a run, which is gone through here."""
    try:
        number = work.finish()
    except ByNought:
        return ("nought", None, work.made)
    except TooGreat:
        return ("great", None, work.made)
    except TooDeep:
        return ("deep", None, work.made)
    except Dry:
        return ("dry", None, work.made)
    return ("value", number, work.made)
