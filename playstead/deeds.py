"""Deeds of a house: how they are built."""

from playstead.letters import is_letter
from playstead.words import are_names, is_name, is_number

# How many parts each deed has, and at which places names and lists of names stand.
SIZES = {"member": 3, "rule": 3, "open": 5, "hear": 2, "tick": 2, "day": 1, "claim": 3, "cup": 6, "round": 2}
NAMES = {"member": (1,), "rule": (1,), "open": (1, 2), "cup": (1, 4), "round": (1,)}
LISTS = {"open": (3,), "cup": (2,)}

# How many ticks a deed may tell.
TICKS = 10000


def is_house_deed(thing):
    """Whether a thing is built as a deed of a house; it may be refused there."""
    if not isinstance(thing, tuple) or not thing or not isinstance(thing[0], str):
        return False
    word = thing[0]
    if SIZES.get(word) != len(thing):
        return False
    return (
        (word != "tick" or is_number(thing[1], 1, TICKS))
        and all([is_name(thing[at]) for at in NAMES.get(word, ())])
        and all([are_names(thing[at]) for at in LISTS.get(word, ())])
    )


def kept_deed(deed):
    """The deed as a house keeps it: lists as tuples, None for what is no letter where letters stand."""
    if deed[0] in ("hear", "claim"):
        return (deed[0], *[part if is_letter(part) else None for part in deed[1:]])
    return tuple([tuple(part) if isinstance(part, list) else part for part in deed])
