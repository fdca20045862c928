"""Houses: members, games at their tables, a book and cups, as deeds lead them."""

from playstead.books import Book
from playstead.clocks import clock_of
from playstead.cups import Cup, is_short
from playstead.deeds import is_house_deed, kept_deed
from playstead.errors import NoCup, NoDay, NoDeed, NoGame, NoKey, NoLadder, NoName, NoRule, SteadError
from playstead.ladders import Ladder, rating
from playstead.letters import GAME, PLAYER, is_key, is_letter
from playstead.pairings import standing
from playstead.ruletexts import read_rule
from playstead.tables import Table
from playstead.words import LAST_DAY, is_name

# How many players a cup's rule is for.
PAIR = 2


class Game:
    """A game at the house."""

    def __init__(self, table, names):
        self.table = table
        self.names = tuple(names)
        # The day on which it was over.
        self.day = None

    def is_over(self):
        """Whether it is over by its entries."""
        return self.table.world().points() is not None

    def points(self):
        """The players' points: by its catch, else by its entries."""
        caught = self.table.catch()
        if caught is None:
            return self.table.world().points()
        return tuple([0 if player == caught[0][PLAYER] else 2 for player in range(len(self.names))])

    def twin(self):
        """Another game that stands just so, and goes its own way."""
        other = Game(self.table.twin(), self.names)
        other.day = self.day
        return other

    def become(self, other):
        """Stands from now on as a twin of it does. The table stays the very one, as it may have been told."""
        self.table.become(other.table)
        self.day = other.day


class Entrants:
    """A cup at the house, and by what its games are opened."""

    def __init__(self, cup, rule, clock):
        self.cup = cup
        self.rule = rule
        self.clock = clock

    def twin(self):
        """Another one that stands just so, and goes its own way."""
        return Entrants(self.cup.twin(), self.rule, self.clock)


class House:
    """A house, as its deeds lead it."""

    def __init__(self, digest, *, ladder=None):
        if ladder is not None and not isinstance(ladder, Ladder):
            raise NoLadder("ladder")
        self._digest = digest
        self._ladder = Ladder() if ladder is None else ladder
        # How many deeds were begun: a deed's both ends are in the log as soon as it begins.
        self._begun = 0
        self._done = []
        self._day = 0
        self._now = 0
        self._members = {}
        self._rules = {}
        self._games = {}
        self._book = Book()
        self._cups = {}

    def do(self, deed):
        """Does a deed, and tells what it tells."""
        self._begun += 1
        if not is_house_deed(deed):
            raise NoDeed(0)
        told = self._act(*deed)
        self._done.append(kept_deed(deed))
        return told

    def _act(self, word, *parts):
        if word == "hear":
            return self._hear(*parts)
        if word == "claim":
            return self._claim(*parts)
        if word == "round":
            return self._pair(*parts)
        if word == "member":
            self._add_member(*parts)
        elif word == "rule":
            self._add_rule(*parts)
        elif word == "open":
            self._add_game(*parts)
        elif word == "tick":
            self._tick(*parts)
        elif word == "cup":
            self._add_cup(*parts)
        else:
            self._turn_day()
        return None

    def _add_member(self, name, key):
        _look_at_new(name, self._members)
        if not is_key(key):
            raise NoKey("key")
        self._members[name] = key

    def _add_rule(self, name, text):
        _look_at_new(name, self._rules)
        self._rules[name] = read_rule(text)

    def _add_game(self, game, rule, names, clock):
        _look_at_new_short(game, self._games)
        _look_at_old(rule, self._rules)
        self._look_at_names(names)
        players = self._players_by(rule)
        if len(names) != players:
            raise NoRule("names")
        self._start(game, self._rules[rule], names, clock_of(clock, players))

    def _add_cup(self, cup, names, rounds, rule, clock):
        _look_at_new_short(cup, self._cups)
        self._look_at_names(names)
        made = Cup(cup, names, rounds=rounds)
        _look_at_old(rule, self._rules)
        if self._players_by(rule) != PAIR:
            raise NoRule("players")
        self._cups[cup] = Entrants(made, self._rules[rule], clock_of(clock, PAIR))

    def _look_at_names(self, names):
        for name in names:
            _look_at_old(name, self._members)
        for at, name in enumerate(names):
            if name in names[:at]:
                raise NoName(name)

    def _players_by(self, rule):
        return self._rules[rule].told()[2]

    def _start(self, game, rule, names, clock):
        table = Table(game, rule, clock, [self._members[name] for name in names], self._digest)
        table.starts(self._now)
        self._games[game] = Game(table, names)
        self._look_for_end(game)

    def _look_for_end(self, game):
        """Tells the book of a game that is over since now."""
        held = self._games[game]
        if held.day is not None:
            # Over already: by a catch its points may have changed.
            self._book.mend(game, held.points())
        elif held.is_over():
            held.day = self._day
            self._book.tell((game, self._day, held.names, held.points()))

    def _hear(self, letter):
        if not self._is_for_table(letter):
            return "none"
        told = self._games[letter[GAME]].table.hear(letter, self._now)
        self._look_for_end(letter[GAME])
        return told

    def _claim(self, one, other):
        if not self._is_for_table(one):
            return "none"
        if not self._games[one[GAME]].table.claim(one, other, self._now):
            return "none"
        self._look_for_end(one[GAME])
        return "struck"

    def _is_for_table(self, thing):
        return is_letter(thing) and thing[GAME] in self._games

    def _tick(self, n):
        self._now += n
        for game in self.games():
            self._games[game].table.tick(self._now)
            self._look_for_end(game)

    def _turn_day(self):
        if self._day == LAST_DAY:
            raise NoDay(LAST_DAY + 1)
        self._day += 1

    def _pair(self, cup):
        _look_at_old(cup, self._cups)
        # A twin goes ahead, as one of the games may stand already.
        held = self._cups[cup].twin()
        pairs, _ = held.cup.pair(held.cup.points_by(self._book.results()))
        lap = len(held.cup.rounds())
        names = [held.cup.game_name(lap, k) for k in range(1, len(pairs) + 1)]
        for name in names:
            _look_at_new(name, self._games)
        self._cups[cup] = held
        for name, pair in zip(names, pairs):
            self._start(name, held.rule, pair, held.clock)
        return names

    def all_done(self, deeds):
        """Does all of a list of deeds or none, and tells the list of what each tells."""
        if not isinstance(deeds, (list, tuple)):
            raise NoDeed(0)
        other = self.twin()
        told = []
        for at, deed in enumerate(deeds):
            self._begun += 1
            try:
                told.append(other.do(deed))
            except SteadError:
                raise NoDeed(at)
        self._become(other)
        return told

    def _become(self, other):
        """Stands from now on as a twin does, but for the log."""
        self._done = other._done
        self._day = other._day
        self._now = other._now
        self._members = other._members
        self._rules = other._rules
        self._book = other._book
        self._cups = other._cups
        for game in other.games():
            if game in self._games:
                self._games[game].become(other._games[game])
            else:
                self._games[game] = other._games[game]

    def log(self):
        """The pairs ("begin", k) and ("end", k) of each deed that was done or refused."""
        return [(word, k) for k in range(1, self._begun + 1) for word in ("begin", "end")]

    def deeds(self):
        """The list of the deeds that were done."""
        return list(self._done)

    def today(self):
        """The day."""
        return self._day

    def now(self):
        """The time."""
        return self._now

    def members(self):
        """A dict from all members, rising, to their keys."""
        return {name: self._members[name] for name in sorted(self._members)}

    def games(self):
        """The names of all games, rising."""
        return sorted(self._games)

    def table(self, game):
        """The very table of a game, to be asked."""
        return self._game(game).table

    def _game(self, game):
        if not is_name(game) or game not in self._games:
            raise NoGame(game)
        return self._games[game]

    def book(self):
        """The book as it is, a twin."""
        return self._book.twin()

    def names_of(self, game):
        """The tuple of a game's names."""
        return self._game(game).names

    def day_of(self, game):
        """The day on which a game was over, None where it isn't."""
        return self._game(game).day

    def cups(self):
        """The names of all cups, rising."""
        return sorted(self._cups)

    def _cup(self, cup):
        if not is_name(cup) or cup not in self._cups:
            raise NoCup(cup)
        return self._cups[cup].cup

    def cup_standing(self, cup):
        """How a cup stands, by the results of its rounds so far."""
        held = self._cup(cup)
        return standing(held.asked()[0], held.counted(self._book.results()))

    def cup_rounds(self, cup):
        """The list of a cup's rounds so far."""
        return self._cup(cup).rounds()

    def cup_asked(self, cup):
        """The pair (names, rounds) with which a cup was made."""
        return self._cup(cup).asked()

    def ladder(self):
        """The ladder."""
        return self._ladder

    def rating(self, name, *, day=None):
        """A member's rating behind a day, today's where none is told."""
        if not is_name(name) or name not in self._members:
            raise NoName(name)
        return rating(self._book, name, self._day if day is None else day, ladder=self._ladder)

    def twin(self):
        """Another house that stands just so, and goes its own way."""
        other = House(self._digest, ladder=self._ladder)
        other._begun = self._begun
        other._done = list(self._done)
        other._day = self._day
        other._now = self._now
        other._members = {name: self._members[name] for name in self._members}
        other._rules = {name: self._rules[name] for name in self._rules}
        other._games = {game: self._games[game].twin() for game in self._games}
        other._book = self._book.twin()
        other._cups = {cup: self._cups[cup].twin() for cup in self._cups}
        return other


def _look_at_new(name, stands):
    if name in stands:
        raise NoName(name)


def _look_at_new_short(name, stands):
    if name in stands or not is_short(name):
        raise NoName(name)


def _look_at_old(name, stands):
    if name not in stands:
        raise NoName(name)


def led(digest, deeds, *, ladder=None):
    """A new house behind these deeds."""
    house = House(digest, ladder=ladder)
    house.all_done(deeds)
    return house
