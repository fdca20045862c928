"""Cups: tournaments, round by round."""

from playstead.books import is_result
from playstead.errors import NoCup, NoPairing, NoResult, Over
from playstead.pairings import is_draw, paired
from playstead.words import is_number, is_small

# The letters of rounds and of games, behind a cup's name.
LAPS = "abcdefghi"
GAMES = "abcde"

# What a name has for a round in which it sits out.
SAT_OUT = 2


def is_short(thing):
    """Whether a thing is a name of at most 6 letters."""
    return is_small(thing, 6)


def cup_game(cup, lap, k):
    """The name of a cup's game in a round, None where there is no letter for it."""
    if not is_number(lap, 1, len(LAPS)) or not is_number(k, 1, len(GAMES)):
        return None
    return f"{cup}{LAPS[lap - 1]}{GAMES[k - 1]}"


class Cup:
    """A tournament of some names."""

    def __init__(self, cup, names, *, rounds):
        if not is_short(cup):
            raise NoCup(cup)
        if not is_draw(names):
            raise NoPairing("names")
        if not is_number(rounds, 1, len(LAPS)):
            raise NoPairing("rounds")
        self._cup = cup
        self._names = tuple(names)
        self._asked = rounds
        # Each round as (games, out), games as a tuple.
        self._laps = []

    def pair(self, points):
        """The next round, as (games, out)."""
        if len(self._laps) == self._asked:
            raise Over("over")
        met = [pair for games, _ in self._laps for pair in games]
        sat = [out for _, out in self._laps if out is not None]
        firsts = {name: len([game for game in met if game[0] == name]) for name in self._names}
        games, out = paired(self._names, points=points, met=met, sat=sat, firsts=firsts)
        self._laps.append((tuple(games), out))
        return (games, out)

    def rounds(self):
        """The list of all rounds so far, as (games, out)."""
        return [(list(games), out) for games, out in self._laps]

    def asked(self):
        """The pair (names, rounds) as it was made."""
        return (self._names, self._asked)

    def counted(self, results):
        """Those of a list of results that are of its rounds so far."""
        if not isinstance(results, (list, tuple)) or not all([is_result(result) for result in results]):
            raise NoResult("results")
        pairs = {}
        for lap, (games, _) in enumerate(self._laps, start=1):
            for k, pair in enumerate(games, start=1):
                pairs[self.game_name(lap, k)] = pair
        return [result for result in results if pairs.get(result[0]) == result[2]]

    def points_by(self, results):
        """A dict from its names, in order, to their points by a list of results."""
        points = {name: SAT_OUT * len([out for _, out in self._laps if out == name]) for name in self._names}
        for result in self.counted(results):
            for one, worth in zip(result[2], result[3]):
                points[one] += worth
        return points

    def game_name(self, lap, k):
        """The name of its game in a round, both from 1."""
        return cup_game(self._cup, lap, k)

    def twin(self):
        """Another cup that stands just so, and goes its own way."""
        other = Cup(self._cup, self._names, rounds=self._asked)
        other._laps = list(self._laps)
        return other
