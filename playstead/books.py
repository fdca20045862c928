"""Books: results of games as they stand."""

from playstead.errors import NoGame, NoResult, TooMany
from playstead.rules import are_points
from playstead.words import are_names, are_unlike, is_day, is_name, is_tuple

# The places of a result's parts.
GAME = 0
DAY = 1
NAMES = 2
POINTS = 3

# How many results may stand.
ROOM = 400


def is_result(thing):
    """Whether a thing is built as a result."""
    return (
        is_tuple(thing, 4, 4)
        and is_name(thing[GAME])
        and is_day(thing[DAY])
        and is_tuple(thing[NAMES], 2, 4)
        and are_names(thing[NAMES])
        and are_unlike(thing[NAMES])
        and are_points(thing[POINTS], len(thing[NAMES]))
    )


class Book:
    """The results that stand, of each game one at most."""

    def __init__(self):
        self._results = {}

    def _look_at_game(self, game):
        if not is_name(game) or game not in self._results:
            raise NoGame(game)

    def tell(self, result):
        """The result stands from now on."""
        if not is_result(result) or result[GAME] in self._results:
            raise NoResult("result")
        if len(self._results) == ROOM:
            raise TooMany(ROOM)
        self._results[result[GAME]] = result

    def mend(self, game, points):
        """The game's points are these."""
        self._look_at_game(game)
        result = self._results[game]
        if not are_points(points, len(result[NAMES])):
            raise NoResult("points")
        self._results[game] = (*result[:POINTS], points)

    def strike(self, game):
        """The game stands no more."""
        self._look_at_game(game)
        del self._results[game]

    def results(self):
        """The list of all results, by day, then game."""
        return sorted(list(self._results.values()), key=lambda result: (result[DAY], result[GAME]))

    def of(self, name):
        """The list of a name's results, by day, then game."""
        return [result for result in self.results() if name in result[NAMES]]

    def days(self):
        """The days of all results, rising."""
        return sorted({result[DAY] for result in self._results.values()})

    def names(self):
        """The names that stand in any result, rising."""
        return sorted({name for result in self._results.values() for name in result[NAMES]})

    def twin(self):
        """Another book that stands just so, and goes its own way."""
        other = Book()
        for result in self.results():
            other.tell(result)
        return other

    def __len__(self):
        return len(self._results)
