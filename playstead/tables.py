"""Tables: games at the house, which orders the letters that it hears."""

from playstead.clocks import is_time
from playstead.courses import Course
from playstead.errors import NoEntry, NoKey, NoPlayer, NoTime
from playstead.letters import AHEAD, PLACE, PLAYER, are_two, is_key, is_letter, is_sealed
from playstead.words import is_list, is_number

# How far beyond its player's next place a letter may be, and how many entries news tell.
FAR = 8
NEWS = 4


class Hearing:
    """What a table keeps of its game. A table's own is never changed: what it is told leads a twin on."""

    def __init__(self, course, waits, caught):
        self.course = course
        # The letters that wait, by player and place.
        self.waits = waits
        self.caught = caught

    def twin(self):
        """Another one that stands just so."""
        return Hearing(self.course, {key: self.waits[key] for key in self.waits}, self.caught)

    def tick(self, time):
        """The list of entries that come as time goes on."""
        fall = self.course.fall_by(time)
        if fall is None:
            return []
        self.course = self.course.joined(fall)
        return [fall]

    def hear(self, letter, time, keys, digest):
        """The word for a thing that is heard."""
        if not is_letter(letter) or not self.course.is_of_it(letter):
            return "none"
        player, place = letter[PLAYER], letter[PLACE]
        if not is_sealed(letter, keys[player], digest):
            return "forged"
        earlier = self.course.letter_at(player, place) or self.waits.get((player, place))
        if earlier is not None:
            return self._hear_another(earlier, letter, time)
        if self.course.is_over():
            return "over"
        beyond = place - self.course.next_place(player)
        if beyond > FAR:
            return "far"
        if beyond > 0:
            self.waits[(player, place)] = letter
            return "waits"
        word = self._join(letter, time, digest)
        self._hear_waiting(player, time, digest)
        return word

    def _hear_another(self, earlier, letter, time):
        if letter == earlier:
            return "again"
        if self.caught is None:
            self.catch_two(earlier, letter, time)
        return "two"

    def catch_two(self, one, other, time):
        """Keeps two unlike letters of one place, which end the game."""
        self.caught = (one, other)
        if not self.course.is_over():
            self.course = self.course.joined(("two", time, one, other))

    def _join(self, letter, time, digest):
        if letter[AHEAD] != self.course.last_seal(letter[PLAYER]):
            return "torn"
        if self.course.is_drift(letter, digest):
            return "drift"
        entry = self.course.entry_of(letter, time)
        self.course = self.course.joined(entry)
        return "done" if entry[0] == "deed" else "void"

    def _hear_waiting(self, player, time, digest):
        key = (player, self.course.next_place(player))
        while key in self.waits and not self.course.is_over():
            self._join(self.waits.pop(key), time, digest)
            key = (player, self.course.next_place(player))


class Table:
    """A game at the house."""

    def __init__(self, game, rule, clock, keys, digest):
        course = Course(game, rule, clock)
        if not is_list(keys, course.players, course.players) or not all([is_key(key) for key in keys]):
            raise NoKey("keys")
        self.game = game
        self.players = course.players
        self.rule = rule
        self._keys = list(keys)
        self._digest = digest
        self._hearing = Hearing(course, {}, None)
        # The last time that it was told, None where it hasn't started.
        self._last = None

    def _look_at_time(self, time):
        if not is_time(time) or self._last is None or time < self._last:
            raise NoTime(time)

    def _look_at_number(self, number):
        if not is_number(number, 0, len(self)):
            raise NoEntry(number)

    def _keep(self, hearing, time):
        self._hearing = hearing
        self._last = time

    def starts(self, time):
        """The game begins."""
        if not is_time(time) or self._last is not None:
            raise NoTime(time)
        hearing = self._hearing.twin()
        hearing.course = hearing.course.joined(("open", time))
        self._keep(hearing, time)

    def hear(self, letter, time):
        """The word for what is heard at that time, a letter or anything else."""
        self._look_at_time(time)
        hearing = self._hearing.twin()
        hearing.tick(time)
        word = hearing.hear(letter, time, self._keys, self._digest)
        # Only now: where the digest raises, nothing was heard, and no time has gone by.
        self._keep(hearing, time)
        return word

    def tick(self, time):
        """Time goes on: the list of entries that come by it."""
        self._look_at_time(time)
        hearing = self._hearing.twin()
        came = hearing.tick(time)
        self._keep(hearing, time)
        return came

    def claim(self, one, other, time):
        """Whether two things are a catch that is kept from now on."""
        self._look_at_time(time)
        hearing = self._hearing.twin()
        hearing.tick(time)
        is_catch = hearing.caught is None and self._are_two_here(one, other)
        if is_catch:
            hearing.catch_two(one, other, time)
        self._keep(hearing, time)
        return is_catch

    def _are_two_here(self, one, other):
        if not are_two(one, other) or not self._hearing.course.is_of_it(one):
            return False
        key = self._keys[one[PLAYER]]
        return is_sealed(one, key, self._digest) and is_sealed(other, key, self._digest)

    def mark(self, n):
        """The mark behind n entries."""
        self._look_at_number(n)
        return self._hearing.course.mark(n, self._digest)

    def entries(self):
        """The list of all entries."""
        return self._hearing.course.entries()

    def world(self, *, behind=None):
        """The world as it is, or as it was behind so many entries, a twin."""
        if behind is None:
            behind = len(self)
        self._look_at_number(behind)
        return self._hearing.course.world(behind)

    def clock(self):
        """The clock as it is, a twin."""
        return self._hearing.course.clock(len(self))

    def left(self, player, time):
        """What is left to the player at that time, by the clock as it is."""
        return self.clock().left(player, time)

    def next_place(self, player):
        """The place of the player's next letter."""
        if not is_number(player, 0, self.players - 1):
            raise NoPlayer(player)
        return self._hearing.course.next_place(player)

    def catch(self):
        """The two letters that were caught, None where none are."""
        return self._hearing.caught

    def news(self, known):
        """The news for who knows so many entries."""
        self._look_at_number(known)
        told = tuple(self.entries()[known:known + NEWS])
        return ("news", self.game, known, told, self.mark(known + len(told)))

    def twin(self):
        """Another table that stands just so, and goes its own way."""
        other = Table(self.game, self.rule, self.clock(), self._keys, self._digest)
        other.become(self)
        return other

    def become(self, other):
        """Stands from now on as another table of the same game does."""
        self._keep(other._hearing, other._last)

    def __len__(self):
        return len(self._hearing.course)
