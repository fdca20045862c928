"""Letters: what players send to the house, each sealed by its player's key."""

from playstead.clocks import is_time
from playstead.errors import NoKey, NoLetter
from playstead.words import is_name, is_number, is_small, is_tuple, read_number

# The places of a letter's parts.
GAME = 1
PLAYER = 2
PLACE = 3
AHEAD = 4
SEEN = 5
MARK = 6
DEED = 7
STAMP = 8
SEAL = 9

# The greatest number that a digest tells.
GREATEST = 10 ** 30


def is_key(thing):
    """Whether a thing is a text of 1 to 20 small letters."""
    return is_small(thing, 20)


def is_deed(thing):
    """Whether a thing is what a letter may ask for."""
    if is_tuple(thing, 2, 2):
        return thing[0] == "move" and is_name(thing[1])
    return is_tuple(thing, 1, 1) and thing[0] in ("give", "even")


def is_letter(thing):
    """Whether a thing is built as a letter."""
    return (
        is_tuple(thing, 10, 10)
        and thing[0] == "letter"
        and is_name(thing[GAME])
        and is_number(thing[PLAYER], 0, 3)
        and is_number(thing[PLACE], 1, 99)
        and is_number(thing[AHEAD], 0, GREATEST)
        and is_number(thing[SEEN], 0)
        and is_number(thing[MARK], 0, GREATEST)
        and is_deed(thing[DEED])
        and is_time(thing[STAMP])
        and is_number(thing[SEAL], 0, GREATEST)
    )


def letter_text(letter):
    """The letter's parts but the first, with blanks between."""
    if not is_letter(letter):
        raise NoLetter("letter")
    return f"{_text_to_seal(letter)} {letter[SEAL]}"


def _text_to_seal(letter):
    """The text that is sealed: all of the letter's but its seal."""
    parts = [str(part) for part in letter[GAME:DEED]]
    return " ".join([*parts, *letter[DEED], str(letter[STAMP])])


def read_letter(text):
    """The letter that a text tells."""
    words = text.split(" ") if isinstance(text, str) else []
    if len(words) not in (9, 10):
        raise NoLetter("words")
    numbers = [read_number(word) for word in [*words[1:6], *words[-2:]]]
    letter = ("letter", words[0], *numbers[:5], tuple(words[6:-2]), *numbers[5:])
    if not is_letter(letter):
        raise NoLetter("letter")
    return letter


def _seal(letter, key, digest):
    return digest(f"{key} {_text_to_seal(letter)}")


def sealed(key, digest, *, game, player, place, deed, ahead=0, seen=0, mark=0, stamp=0):
    """The letter of these parts, with its seal by the key."""
    if not is_key(key):
        raise NoKey("key")
    letter = ("letter", game, player, place, ahead, seen, mark, deed, stamp, 0)
    if not is_letter(letter):
        raise NoLetter("letter")
    return (*letter[:SEAL], _seal(letter, key, digest))


def is_sealed(letter, key, digest):
    """Whether a thing is a letter with the seal by that key."""
    return is_letter(letter) and is_key(key) and letter[SEAL] == _seal(letter, key, digest)


def are_two(one, other):
    """Whether both are letters of one game, player and place, and unlike."""
    return is_letter(one) and is_letter(other) and one[GAME:AHEAD] == other[GAME:AHEAD] and one != other
