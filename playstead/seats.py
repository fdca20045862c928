"""Seats: players far away, who know what news told them and go ahead by guess."""

from playstead.clocks import is_time
from playstead.courses import Course, can_do, do_deed, is_entry
from playstead.errors import Drift, NoKey, NoNews, NoPlayer, NoWish, TooMany
from playstead.letters import DEED, PLACE, SEAL, is_deed, is_key, sealed
from playstead.words import is_number, is_tuple

# How many letters may be out.
OUT = 2


def is_news(thing, game):
    """Whether a thing is built as news of that game."""
    return (
        is_tuple(thing, 5, 5)
        and thing[0] == "news"
        and thing[1] == game
        and is_number(thing[2], 0)
        and is_tuple(thing[3], 0, 4)
        and all([isinstance(entry, tuple) for entry in thing[3]])
        and is_number(thing[4])
    )


class Seat:
    """A player's seat at a game."""

    def __init__(self, game, rule, clock, player, key, digest):
        self._course = Course(game, rule, clock)
        if not is_number(player, 0, self._course.players - 1):
            raise NoPlayer(player)
        if not is_key(key):
            raise NoKey("key")
        self.game = game
        self.player = player
        self._rule = rule
        self._key = key
        self._digest = digest
        # All letters that were told by wish and aren't known.
        self._out = []

    def hear(self, news):
        """Whether the seat knows more by these news."""
        if not is_news(news, self.game):
            raise NoNews("news")
        known, entries, mark = news[2:]
        if known > len(self._course):
            return False
        course = self._course
        for entry in entries:
            course = self._behind(course, known, entry)
            known += 1
        if course.mark(known, self._digest) != mark:
            raise Drift(known)
        knows_more = len(course) > len(self._course)
        self._know(course)
        return knows_more

    def _behind(self, course, at, entry):
        """The course behind an entry that is told for that place, from 0; Drift where it is wrong."""
        if at == len(course):
            if not course.follows(entry):
                raise Drift(at)
            return course.joined(entry)
        # True and 1 are equal, but not the same: what isn't built as an entry is unlike all.
        if not is_entry(entry) or entry != course.entries()[at]:
            raise Drift(at)
        return course

    def _know(self, course):
        place = course.next_place(self.player)
        self._course = course
        self._out = [letter for letter in self._out if letter[PLACE] >= place]

    def known(self):
        """The list of entries that it knows."""
        return self._course.entries()

    def sure(self):
        """The world behind what it knows, a twin."""
        return self._course.world(len(self._course))

    def clock(self):
        """The clock behind what it knows, a twin."""
        return self._course.clock(len(self._course))

    def wish(self, deed, stamp):
        """The letter of a deed that is wished."""
        if not is_deed(deed) or not is_time(stamp) or not can_do(self.shown(), self.player, deed):
            raise NoWish("wish")
        if len(self._out) == OUT:
            raise TooMany(OUT)
        course = self._course
        letter = sealed(
            self._key,
            self._digest,
            game=self.game,
            player=self.player,
            place=course.next_place(self.player) + len(self._out),
            deed=deed,
            ahead=self._out[-1][SEAL] if self._out else course.last_seal(self.player),
            seen=len(course),
            mark=course.mark(len(course), self._digest),
            stamp=stamp,
        )
        self._out = [*self._out, letter]
        return letter

    def shown(self):
        """The world with the deeds of the letters that are out, as far as they can be done."""
        world = self.sure()
        for letter in self._out:
            if not can_do(world, self.player, letter[DEED]):
                return world
            do_deed(world, self.player, letter[DEED])
        return world

    def out(self):
        """The letters that were told by wish and aren't known."""
        return list(self._out)

    def sends(self):
        """What it sends: the letters that are out, and what it asks."""
        return [*self._out, ("ask", self.game, len(self._course))]

    def twin(self):
        """Another seat that knows and wished the same, and goes its own way."""
        other = Seat(self.game, self._rule, self.clock(), self.player, self._key, self._digest)
        other.become(self)
        return other

    def become(self, other):
        """Knows and wished from now on what another seat of the same player does."""
        self._course = other._course
        self._out = list(other._out)
