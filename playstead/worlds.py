"""Worlds: games as their moves lead them."""

from playstead.errors import NoMove, NoPlayer, NoRule, Over
from playstead.rules import LOSE, Rule
from playstead.words import is_number

GIVEN = "given"
FALL = "fall"
TWO = "two"


def _holds(cells, test):
    cell, sign, n = test
    if sign == "least":
        return cells[cell] >= n
    if sign == "most":
        return cells[cell] <= n
    return cells[cell] == n


def _changed(cells, changes):
    behind = list(cells)
    for cell, word, n in changes:
        behind[cell] = n if word == "put" else behind[cell] + n
    return tuple(behind)


def _numbers_text(numbers):
    return ",".join([str(number) for number in numbers]) if numbers else "-"


class World:
    """A game by a rule: its cells, what was played, and how it ended."""

    def __init__(self, rule):
        if not isinstance(rule, Rule):
            raise NoRule("rule")
        self._rule = rule
        self._cells, self._moves, self._players, self._ends, self._most, self._stuck = rule.told()
        self._played = []
        self._evens = []
        self._points = None
        self._why = None
        self._look_for_end()

    def _look_for_end(self):
        for tests, points in self._ends:
            if all([_holds(self._cells, test) for test in tests]):
                self._end(points, "end")
                return
        if len(self._played) == self._most:
            self._end(self._shared(), "most")
        elif not self.allowed():
            self._end(self._lost(self.turn()) if self._stuck == LOSE else self._shared(), "stuck")

    def _end(self, points, why):
        self._points = points
        self._why = why

    def _shared(self):
        return (1,) * self._players

    def _lost(self, player):
        return tuple([0 if one == player else 2 for one in range(self._players)])

    def _look_at_player(self, player):
        if not is_number(player, 0, self._players - 1):
            raise NoPlayer(player)
        if self._why is not None:
            raise Over("over")

    def _is_allowed(self, move):
        _, by, tests, changes = move
        return (
            (by is None or by == self.turn())
            and all([_holds(self._cells, test) for test in tests])
            and all([0 <= number <= 9 for number in _changed(self._cells, changes)])
        )

    def cells(self):
        """The tuple of the cells' numbers."""
        return self._cells

    def turn(self):
        """The player whose turn it is, None where it is over."""
        return None if self._why is not None else len(self._played) % self._players

    def allowed(self):
        """The names of the moves that are allowed, in the rule's order."""
        if self._why is not None:
            return []
        return [move[0] for move in self._moves if self._is_allowed(move)]

    def play(self, name):
        """A move of whose turn it is."""
        if self._why is not None:
            raise Over("over")
        if name not in self.allowed():
            raise NoMove(name)
        for move in self._moves:
            if move[0] == name:
                self._cells = _changed(self._cells, move[3])
        self._played.append(name)
        self._evens = []
        self._look_for_end()

    def give(self, player, *, why=GIVEN):
        """The player gives the game up, or loses it for another reason."""
        self._look_at_player(player)
        self._end(self._lost(player), why)

    def even(self, player):
        """The player would have the game end even."""
        self._look_at_player(player)
        if player not in self._evens:
            self._evens = sorted([*self._evens, player])
        if len(self._evens) == self._players:
            self._end(self._shared(), "even")

    def points(self):
        """The tuple of the players' points, None where it isn't over."""
        return self._points

    def why(self):
        """Why it is over, None where it isn't."""
        return self._why

    def played(self):
        """The names of the moves that were played."""
        return list(self._played)

    def evens(self):
        """The players that have said even since the last move, rising."""
        return list(self._evens)

    def twin(self):
        """Another world that stands just so, and goes its own way."""
        other = World(self._rule)
        other._cells = self._cells
        other._played = list(self._played)
        other._evens = list(self._evens)
        other._points = self._points
        other._why = self._why
        return other

    def text(self):
        """The cells, the turn, how many moves, the evens, the points, why."""
        turn = self.turn()
        return "|".join([
            _numbers_text(self._cells),
            "-" if turn is None else str(turn),
            str(len(self._played)),
            _numbers_text(self._evens),
            _numbers_text(self._points),
            "-" if self._why is None else self._why,
        ])

    def mark(self, digest):
        """The digest of the text."""
        return digest(self.text())

    def __len__(self):
        return len(self._played)

    def __eq__(self, other):
        return (
            isinstance(other, World)
            and self._rule == other._rule
            and self._played == other._played
            and self._evens == other._evens
            and self._points == other._points
            and self._why == other._why
        )
