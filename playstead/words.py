"""Whether things are of the kinds that the rules are told in."""


def is_name(thing):
    """Whether a thing is a text of 1 to 8 small letters."""
    # Small letters beyond ASCII are none, so islower alone would not do.
    return (
        isinstance(thing, str)
        and 1 <= len(thing) <= 8
        and thing.isascii()
        and thing.isalpha()
        and thing.islower()
    )


def is_number(thing, low, high):
    """Whether a thing is a number from low to high."""
    # Python counts True and False among the ints, the document does not.
    return isinstance(thing, int) and not isinstance(thing, bool) and low <= thing <= high


def is_tuple(thing, low, high):
    """Whether a thing is a tuple of low to high parts."""
    return isinstance(thing, tuple) and low <= len(thing) <= high


def is_list(thing, low, high):
    """Whether a thing is a list of low to high parts; a tuple may stand for it."""
    return isinstance(thing, (list, tuple)) and low <= len(thing) <= high
