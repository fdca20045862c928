"""What the tests share: digests, rules, clocks, letters."""

import hashlib

from playstead.clocks import Clock
from playstead.letters import sealed
from playstead.rules import Rule
from playstead.tables import Table

KEYS = ["alphakey", "betakey", "gammakey", "deltakey"]

# Things of many kinds, none of which is a number, a name or anything else that the document tells.
OTHERS = [
    None, True, False, "", "A", "a b", "0", "1", [], [0], [[]], (), (0,), ((),), (None,), {}, {0: 1}, {"a": [1]},
    "abcdefghijklmnopqrstuvwxyz",
]
# Those that are no number at all, and no number in reach.
NO_NUMBERS = [*OTHERS, "-1", [1], (1,), {1: 1}]
NO_TIMES = [*NO_NUMBERS, -1, -(10 ** 39)]


def digest(text):
    """A digest as [4] tells it: of texts alone, a number from 0 to 10 ** 30."""
    if type(text) is not str:
        raise AssertionError(f"the digest was handed {text!r}")
    return int.from_bytes(hashlib.sha256(text.encode()).digest(), "big") % (10 ** 30 + 1)


class DigestFails(Exception):
    """A digest's own error."""


class Digest:
    """A digest that keeps what it was asked of, and raises at an asking where that is told."""

    def __init__(self):
        self.asked = []
        self.fails_at = None

    def fail_at(self, asking):
        """Raises at that asking from now on, from 1."""
        self.fails_at = len(self.asked) + asking

    def __call__(self, text):
        self.asked.append(text)
        if self.fails_at is not None and len(self.asked) >= self.fails_at:
            raise DigestFails(text)
        return digest(text)


def take_rule(*, start=5, players=2, most=40, ends=(), stuck="lose"):
    """Players take one or two of some by turns; who can't has lost."""
    return Rule(
        [start],
        [("one", None, (), ((0, "add", -1),)), ("two", None, (), ((0, "add", -2),))],
        players=players, most=most, ends=ends, stuck=stuck,
    )


def long_rule(*, players=2, most=60):
    """A game that goes on: a cell is put to 1 and to 0."""
    return Rule(
        [0],
        [("up", None, ((0, "is", 0),), ((0, "put", 1),)), ("down", None, ((0, "is", 1),), ((0, "put", 0),))],
        players=players, most=most,
    )


def flat_clock(*, players=2, base=1000, **rest):
    return Clock(players, base=base, **rest)


def standing(table):
    """The letters that stand in a table's entries, by player."""
    letters = [entry[2] for entry in table.entries() if entry[0] in ("deed", "void")]
    return {player: [letter for letter in letters if letter[2] == player] for player in range(4)}


def letter_to(table, player, deed, *, key=None, by=digest, **parts):
    """The letter that a player who knows all of the table would send, or one with other parts."""
    own = standing(table)[player]
    right = {
        "game": "nim",
        "player": player,
        "place": len(own) + 1,
        "ahead": own[-1][9] if own else 0,
        "seen": len(table),
        "mark": table.mark(len(table)),
        "stamp": 0,
    }
    return sealed(KEYS[player] if key is None else key, by, deed=deed, **{**right, **parts})


def row_of_letters(table, player, deeds, **parts):
    """Letters of one player, one behind the other, all written by what stands now."""
    letters = []
    for deed in deeds:
        own = standing(table)[player]
        place = len(own) + 1 + len(letters)
        ahead = letters[-1][9] if letters else (own[-1][9] if own else 0)
        letters.append(letter_to(table, player, deed, **{"place": place, "ahead": ahead, **parts}))
    return letters


def chance_table(chance, *, players=None, game="nim", by=digest, keys=None, start=0, many=None):
    """A table at which letters were heard at any times, in any order; with the clocks behind its entries."""
    players = chance.randint(2, 4) if players is None else players
    keys = KEYS[:players] if keys is None else keys
    rule = chance.choice([take_rule(start=9, players=players, most=12), long_rule(players=players, most=9)])
    clock = chance.choice([
        flat_clock(players=players, base=60, credit=5), Clock(players, base=40, kind="grace", plus=4),
        Clock(players, base=30, kind="plus", plus=4, credit=9), Clock(players, base=10, kind="parts", plus=5, parts=4),
    ])
    table = Table(game, rule, clock, keys, by)
    clocks = {0: table.clock()}
    table.starts(start)
    clocks[1] = table.clock()
    time, pool = start, []
    for _ in range(chance.randint(0, 40) if many is None else many):
        time += chance.choice([0, 0, 1, 2, 5])
        pool.append(chance_letter(chance, table, players, time, game, keys))
        table.hear(chance.choice(pool[-4:]), time)
        if chance.random() < 0.1:
            table.tick(time)
        clocks[len(table)] = table.clock()
    return table, clocks


def chance_letter(chance, table, players, time, game, keys):
    """A letter that a player might send, rarely one that was written by less than all, far ahead, or a second one."""
    player = chance.choice([table.world().turn() or 0] * 3 + [chance.randrange(players)])
    deed = chance.choice([("move", name) for name in ["one", "two", "up", "down"]] * 3 + [("even",), ("give",)])
    allowed = table.world().allowed()
    if allowed and chance.random() < 0.7:
        deed = ("move", chance.choice(allowed))
    own = standing(table)[player]
    seen = chance.choice([len(table)] * 3 + [chance.randint(0, len(table))])
    parts = {"game": game, "seen": seen, "mark": table.mark(seen), "stamp": max(0, time - chance.randint(0, 4))}
    if chance.random() < 0.1:
        parts["place"] = max(1, len(own) + chance.choice([0, 2, 2, 3]))
    return letter_to(table, player, deed, key=keys[player], **parts)
