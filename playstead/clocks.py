"""Clocks: how long each player may take in all, in ticks."""

from playstead.errors import Fallen, NoClock, NoPlayer, NoTime
from playstead.words import is_name, is_number, is_tuple, read_number

FLAT = "flat"
PLUS = "plus"
GRACE = "grace"
PARTS = "parts"


def is_time(thing):
    """Whether a thing is a time: a number from 0 on."""
    return is_number(thing, 0)


class Clock:
    """The clock of a game; at most one player's time runs."""

    def __init__(self, players, *, base, kind=FLAT, plus=0, parts=0, credit=0):
        if not is_number(players, 2, 4):
            raise NoClock("players")
        if not is_number(base, 1, 10000):
            raise NoClock("base")
        if kind not in (FLAT, PLUS, GRACE, PARTS):
            raise NoClock("kind")
        if not is_number(plus, 0, 1000) or kind == PARTS and plus == 0:
            raise NoClock("plus")
        if not is_number(parts, 0, 5):
            raise NoClock("parts")
        if not is_number(credit, 0, 1000):
            raise NoClock("credit")
        self._told = (players, base, kind, plus, parts, credit)
        self._kind = kind
        self._plus = plus
        self._left = [base] * players
        self._parts = [parts] * players
        self._credit = [credit] * players
        self._running = None
        self._since = None
        self._last = 0

    def _look_at_player(self, player):
        if not is_number(player, 0, len(self._left) - 1):
            raise NoPlayer(player)

    def _may_come(self, time):
        return is_time(time) and time >= self._last

    def _run(self, player, time):
        self._running = player
        self._since = None if player is None else time
        self._last = time

    def _left_when(self, player, used):
        if self._kind == GRACE:
            return self._left[player] - max(0, used - self._plus)
        if self._kind == PARTS:
            return self._left[player] + self._parts[player] * self._plus - used
        return self._left[player] - used

    def _charge(self, player, used):
        left = self._left[player]
        if self._kind == GRACE:
            used = max(0, used - self._plus)
        if self._kind == PARTS and used >= left:
            gone = (used - left) // self._plus
            self._parts[player] = max(0, self._parts[player] - gone)
        self._left[player] = max(0, left - used)

    def begin(self, player, time):
        """The player's time runs since that time."""
        self._look_at_player(player)
        if not self._may_come(time) or self._running is not None:
            raise NoTime(time)
        self._run(player, time)

    def press(self, time, *, late=0):
        """Who runs has moved; the next player's time runs since that time."""
        if not self._may_come(time) or self._running is None:
            raise NoTime(time)
        player = self._running
        if self.falls() <= time:
            raise Fallen(player)
        used = time - self._since
        saved = min(late, used, self._credit[player])
        self._credit[player] -= saved
        self._charge(player, used - saved)
        if self._kind == PLUS:
            self._left[player] += self._plus
        self._run((player + 1) % len(self._left), time)

    def stop(self, time):
        """Who runs is charged, and nobody's time runs."""
        if not self._may_come(time) or self._running is None:
            raise NoTime(time)
        self._charge(self._running, time - self._since)
        self._run(None, time)

    def left(self, player, time):
        """What is left to the player in all at that time."""
        self._look_at_player(player)
        if not self._may_come(time):
            raise NoTime(time)
        used = time - self._since if player == self._running else 0
        return max(0, self._left_when(player, used))

    def falls(self):
        """The time at which who runs falls, None where nobody runs."""
        if self._running is None:
            return None
        whole = self._left_when(self._running, 0)
        # Who has nothing left falls at once: no grace saves it.
        if self._kind == GRACE and whole > 0:
            whole += self._plus
        return self._since + whole

    def running(self):
        """The player whose time runs, None where nobody's does."""
        return self._running

    def told(self):
        """The tuple (players, base, kind, plus, parts, credit), as at first."""
        return self._told

    def fresh(self):
        """Another clock of the same told, as at first."""
        players, base, kind, plus, parts, credit = self._told
        return Clock(players, base=base, kind=kind, plus=plus, parts=parts, credit=credit)

    def twin(self):
        """Another clock that stands just so, and goes its own way."""
        other = self.fresh()
        other._left = list(self._left)
        other._parts = list(self._parts)
        other._credit = list(self._credit)
        other._running = self._running
        other._since = self._since
        other._last = self._last
        return other

    def __eq__(self, other):
        return (
            isinstance(other, Clock)
            and self._told == other._told
            and self._left == other._left
            and self._parts == other._parts
            and self._credit == other._credit
            and self._running == other._running
            and self._since == other._since
        )


def clock_of(told, players):
    """The clock, as at first, of such a told for so many players; NoClock of anything else."""
    if not is_tuple(told, 6, 6) or not is_number(told[0], players, players):
        raise NoClock("told")
    _, base, kind, plus, parts, credit = told
    return Clock(players, base=base, kind=kind, plus=plus, parts=parts, credit=credit)


def is_told_by_form(thing):
    """Whether a thing is built as a clock's told, its kind any name and its numbers any from 0 on."""
    if not is_tuple(thing, 6, 6):
        return False
    return is_name(thing[2]) and all([is_number(part, 0) for part in (*thing[:2], *thing[3:])])


def told_text(told):
    """The parts of a clock's told, with blanks between."""
    return " ".join([str(part) for part in told])


def read_told(text):
    """What is built as a clock's told, by its text; None of any other text."""
    words = text.split(" ")
    if len(words) != 6:
        return None
    numbers = [read_number(word) for word in (*words[:2], *words[3:])]
    told = (*numbers[:2], words[2], *numbers[2:])
    return told if is_told_by_form(told) else None
