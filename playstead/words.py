"""Whether things are of the kinds that the rules are told in, and numbers as texts tell them."""

# Of numbers of more figures nothing is told; Python itself reads no more than some thousands.
FIGURES = 40

LAST_DAY = 400


def is_name(thing):
    """Whether a thing is a text of 1 to 8 small letters."""
    return is_small(thing, 8)


def is_small(thing, most):
    """Whether a thing is a text of 1 to so many small letters."""
    # Small letters beyond ASCII are none, so islower alone would not do.
    return (
        isinstance(thing, str)
        and 1 <= len(thing) <= most
        and thing.isascii()
        and thing.isalpha()
        and thing.islower()
    )


def is_number(thing, low=None, high=None):
    """Whether a thing is a number, from low on and up to high where these are told."""
    # Python counts True and False among the ints, the document does not.
    if not isinstance(thing, int) or isinstance(thing, bool):
        return False
    return (low is None or low <= thing) and (high is None or thing <= high)


def is_day(thing):
    """Whether a thing is a day: a number from 0 to 400."""
    return is_number(thing, 0, LAST_DAY)


def is_tuple(thing, low, high):
    """Whether a thing is a tuple of low to high parts."""
    return isinstance(thing, tuple) and low <= len(thing) <= high


def is_list(thing, low, high):
    """Whether a thing is a list of low to high parts; a tuple may stand for it."""
    return isinstance(thing, (list, tuple)) and low <= len(thing) <= high


def are_names(thing):
    """Whether a thing is a list of names, however many."""
    return isinstance(thing, (list, tuple)) and all([is_name(part) for part in thing])


def are_unlike(parts):
    """Whether no two of some names are the same."""
    return len({part for part in parts}) == len(parts)


def read_number(word, figures=FIGURES):
    """The number that a word of at most so many figures tells; None of needless noughts and of all else."""
    if len(word) > figures or not (word.isascii() and word.isdigit()):
        return None
    number = int(word)
    return number if str(number) == word else None
