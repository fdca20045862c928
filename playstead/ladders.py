"""Ladders: ratings by days, worked out from the results of a book."""

from math import gcd

from playstead.errors import NoDay, NoLadder, NoName
from playstead.words import is_day, is_name, is_number, is_tuple

FIRST = 1000
WIDE = 400
LEAST = 100


def _are_steps(thing):
    if not is_tuple(thing, 1, 4) or not all([is_tuple(part, 2, 2) and is_number(part[1], 1, 100) for part in thing]):
        return False
    games = [part[0] for part in thing]
    return (
        games[-1] is None
        and all([is_number(part, 1) for part in games[:-1]])
        and all([one < other for one, other in zip(games[:-1], games[1:-1])])
    )


class Ladder:
    """By what rule ratings rise and fall."""

    def __init__(self, *, first=FIRST, wide=WIDE, steps=((10, 40), (None, 20)), least=LEAST):
        if not is_number(first, 0, 4000):
            raise NoLadder("first")
        if not is_number(wide, 1, 1000):
            raise NoLadder("wide")
        if not _are_steps(steps):
            raise NoLadder("steps")
        if not is_number(least, 0, first):
            raise NoLadder("least")
        self._told = (first, wide, steps, least)

    def told(self):
        """The tuple (first, wide, steps, least)."""
        return self._told


def _lowest(above, below):
    """The pair in lowest terms."""
    by = gcd(above, below)
    return (above // by, below // by)


def factor_of(steps, played):
    """The k of who has played so many games."""
    for games, k in steps:
        if games is None or games > played:
            return k
    return None


def gain_of(k, rows):
    """k times the sum of share less awaited, each row's third and fourth part, rounded, a half upwards."""
    above, below = 0, 1
    for row in rows:
        share, awaited = row[2:4]
        more = share[0] * awaited[1] - awaited[0] * share[1]
        unit = share[1] * awaited[1]
        above, below = _lowest(above * unit + more * below, below * unit)
    return (2 * k * above + below) // (2 * below)


class Climb:
    """All ratings behind the days that it has gone through."""

    def __init__(self, ladder):
        self._first, self._wide, self._steps, self._least = ladder.told()
        self._ratings = {}
        self._played = {}

    def rating_of(self, name):
        """The name's rating."""
        return self._ratings.get(name, self._first)

    def paper(self, results, name):
        """What the results of the next day make of a name's rating, None where it doesn't play."""
        rows = [row for result in results if name in result[2] for row in self._rows(result, name)]
        if not rows:
            return None
        ahead = self.rating_of(name)
        k = factor_of(self._steps, self._played.get(name, 0))
        gain = gain_of(k, rows)
        return (ahead, k, rows, gain, max(ahead + gain, self._least))

    def _rows(self, result, name):
        game, _, names, points = result
        own = points[names.index(name)]
        return [
            (game, other, _share(own, worth), self._awaited(name, other))
            for other, worth in zip(names, points) if other != name
        ]

    def _awaited(self, name, other):
        above = self._wide + self.rating_of(name) - self.rating_of(other)
        return _lowest(max(0, min(above, 2 * self._wide)), 2 * self._wide)

    def go_on(self, results):
        """All results of the next day, by the ratings ahead of it."""
        names = [name for result in results for name in result[2]]
        behind = {name: self.paper(results, name)[4] for name in names}
        for name in names:
            self._played[name] = self._played.get(name, 0) + 1
        for name in behind:
            self._ratings[name] = behind[name]


def _share(own, worth):
    if own == worth:
        return (1, 2)
    return (1, 1) if own > worth else (0, 1)


def _look_at_name(name):
    if not is_name(name):
        raise NoName(name)


def _look_at_day_and_ladder(day, ladder):
    if not is_day(day):
        raise NoDay(day)
    if not isinstance(ladder, Ladder):
        raise NoLadder("ladder")


def _by_days(book, day):
    """A dict from each day up to that one, rising, to its results, by games."""
    days = {}
    for result in book.results():
        if result[1] <= day:
            days.setdefault(result[1], []).append(result)
    return days


def _climb(book, day, ladder):
    """All ratings behind that day."""
    climb = Climb(ladder)
    for results in _by_days(book, day).values():
        climb.go_on(results)
    return climb


def rating(book, name, day, *, ladder):
    """The name's rating behind that day."""
    _look_at_name(name)
    _look_at_day_and_ladder(day, ladder)
    return _climb(book, day, ladder).rating_of(name)


def ratings(book, day, *, ladder):
    """A dict from all names of the book, rising, to their ratings behind that day."""
    _look_at_day_and_ladder(day, ladder)
    climb = _climb(book, day, ladder)
    return {name: climb.rating_of(name) for name in book.names()}


def because(book, name, day, *, ladder):
    """Why the name's rating is what it is behind that day, None where it doesn't play there."""
    _look_at_name(name)
    _look_at_day_and_ladder(day, ladder)
    results = _by_days(book, day).get(day, [])
    return _climb(book, day - 1, ladder).paper(results, name)


def ripple(book, other, day, *, ladder):
    """The list of (name, day, before, behind) where ratings are others by the other book."""
    _look_at_day_and_ladder(day, ladder)
    both = [_by_days(book, day), _by_days(other, day)]
    climbs = [Climb(ladder), Climb(ladder)]
    names = sorted(set([*book.names(), *other.names()]))
    rows = []
    for one in sorted(set([*both[0], *both[1]])):
        for climb, days in zip(climbs, both):
            climb.go_on(days.get(one, []))
        rows.extend([(name, one, climbs[0].rating_of(name), climbs[1].rating_of(name)) for name in names])
    return [row for row in rows if row[2] != row[3]]
