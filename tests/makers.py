"""What the tests share: digests, rules, clocks, letters."""

import hashlib

from playstead.clocks import Clock
from playstead.letters import sealed
from playstead.rules import Rule

KEYS = ["alphakey", "betakey", "gammakey", "deltakey"]

# Things of many kinds, none of which is a number, a name or anything else that the document tells.
OTHERS = [
    None, True, False, "", "A", "a b", "0", "1", [], [0], [[]], (), (0,), ((),), (None,), {}, {0: 1}, {"a": [1]},
    "abcdefghijklmnopqrstuvwxyz",
]
# Those that are no number at all, and no number in reach.
NO_NUMBERS = [*OTHERS, "-1", [1], (1,), {1: 1}]
NO_TIMES = [*NO_NUMBERS, -1, -(10 ** 39)]


def digest(text):
    """A digest as [4] tells it: of texts alone, a number from 0 to 10 ** 30."""
    if type(text) is not str:
        raise AssertionError(f"the digest was handed {text!r}")
    return int.from_bytes(hashlib.sha256(text.encode()).digest(), "big") % (10 ** 30 + 1)


class DigestFails(Exception):
    """A digest's own error."""


class Digest:
    """A digest that keeps what it was asked of, and raises at an asking where that is told."""

    def __init__(self):
        self.asked = []
        self.fails_at = None

    def fail_at(self, asking):
        """Raises at that asking from now on, from 1."""
        self.fails_at = len(self.asked) + asking

    def __call__(self, text):
        self.asked.append(text)
        if self.fails_at is not None and len(self.asked) >= self.fails_at:
            raise DigestFails(text)
        return digest(text)


def take_rule(*, start=5, players=2, most=40, ends=(), stuck="lose"):
    """Players take one or two of some by turns; who can't has lost."""
    return Rule(
        [start],
        [("one", None, (), ((0, "add", -1),)), ("two", None, (), ((0, "add", -2),))],
        players=players, most=most, ends=ends, stuck=stuck,
    )


def long_rule(*, players=2, most=60):
    """A game that goes on: a cell is put to 1 and to 0."""
    return Rule(
        [0],
        [("up", None, ((0, "is", 0),), ((0, "put", 1),)), ("down", None, ((0, "is", 1),), ((0, "put", 0),))],
        players=players, most=most,
    )


def flat_clock(*, players=2, base=1000, **rest):
    return Clock(players, base=base, **rest)


def standing(table):
    """The letters that stand in a table's entries, by player."""
    letters = [entry[2] for entry in table.entries() if entry[0] in ("deed", "void")]
    return {player: [letter for letter in letters if letter[2] == player] for player in range(4)}


def letter_to(table, player, deed, *, key=None, by=digest, **parts):
    """The letter that a player who knows all of the table would send, or one with other parts."""
    own = standing(table)[player]
    right = {
        "game": "nim",
        "player": player,
        "place": len(own) + 1,
        "ahead": own[-1][9] if own else 0,
        "seen": len(table),
        "mark": table.mark(len(table)),
        "stamp": 0,
    }
    return sealed(KEYS[player] if key is None else key, by, deed=deed, **{**right, **parts})


def row_of_letters(table, player, deeds, **parts):
    """Letters of one player, one behind the other, all written by what stands now."""
    letters = []
    for deed in deeds:
        own = standing(table)[player]
        place = len(own) + 1 + len(letters)
        ahead = letters[-1][9] if letters else (own[-1][9] if own else 0)
        letters.append(letter_to(table, player, deed, **{"place": place, "ahead": ahead, **parts}))
    return letters
