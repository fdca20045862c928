"""Nets: a table, its seats, and the lines between them, on which things are late, lost or doubled."""

from playstead.errors import NoDeed, NoPlace, NoTable
from playstead.letters import is_letter
from playstead.seats import Seat
from playstead.tables import Table
from playstead.words import is_list, is_number, is_tuple

# How many things may be under way on a line.
ROOM = 8

# How many parts each deed has.
SIZES = {"wish": 3, "send": 2, "up": 3, "down": 3, "lose": 4, "copy": 4, "forge": 3, "tick": 2}


class Wire:
    """A seat's line up to the table, and its line down from it."""

    def __init__(self, table, seat):
        self._table = table
        self._seat = seat
        self._lines = {"up": [], "down": []}

    def under(self, way):
        """The list of what is under way."""
        return list(self._lines[way])

    def put(self, way, thing):
        """A thing is put on a line; it is lost where there is no room."""
        if len(self._lines[way]) < ROOM:
            self._lines[way].append(thing)

    def lose(self, way, at):
        """The thing at that place is gone."""
        del self._lines[way][at]

    def wish(self, deed, now):
        """The letter of a deed that the seat wishes."""
        return self._seat.wish(deed, now)

    def send(self):
        """All that the seat sends is put on its line up."""
        for thing in self._seat.sends():
            self.put("up", thing)

    def arrive(self, way, at, now):
        """The thing at that place arrives; what is refused there stays under way."""
        thing = self._lines[way][at]
        if way == "up" and thing[0] == "ask":
            news = self._table.news(thing[2])
            self.lose(way, at)
            self.put("down", news)
            return None
        told = self._table.hear(thing, now) if way == "up" else self._seat.hear(thing)
        self.lose(way, at)
        return told

    def lap(self, now):
        """All arrives, the seat sends, and all arrives: whether the seat knew more."""
        knew_more = self._all_arrive(now)
        self.send()
        return self._all_arrive(now) or knew_more

    def _all_arrive(self, now):
        knew_more = False
        while self._lines["up"]:
            self.arrive("up", 0, now)
        while self._lines["down"]:
            if self.arrive("down", 0, now):
                knew_more = True
        return knew_more

    def twin(self, table):
        """Another seat's lines to that table, on which the same is under way."""
        other = Wire(table, self._seat.twin())
        other._lines = {way: list(self._lines[way]) for way in self._lines}
        return other

    def become(self, other):
        """Stands from now on as another wire and its seat do."""
        self._seat.become(other._seat)
        self._lines = {way: list(other._lines[way]) for way in other._lines}


def _laps(table, wires, now):
    """Rounds until one in which nothing new came: how many."""
    many = 0
    is_new = True
    while is_new:
        entries = len(table)
        is_new = False
        for wire in wires:
            if wire.lap(now):
                is_new = True
        is_new = is_new or len(table) > entries
        many += 1
    return many


def _is_new_seat(seat, table, player):
    return (
        isinstance(seat, Seat)
        and seat.game == table.game
        and seat.player == player
        and not seat.known()
        and not seat.out()
    )


class Net:
    """A table and its seats, played through lines."""

    def __init__(self, table, seats):
        if not isinstance(table, Table) or len(table) > 0:
            raise NoTable("table")
        if not is_list(seats, table.players, table.players):
            raise NoTable("seats")
        if not all([_is_new_seat(seat, table, player) for player, seat in enumerate(seats)]):
            raise NoTable("seats")
        self._table = table
        self._seats = list(seats)
        self._wires = [Wire(table, seat) for seat in seats]
        self._now = 0
        table.starts(0)

    def do(self, deed):
        """Does a deed, and tells what it tells."""
        if not self._is_deed(deed):
            raise NoDeed(0)
        word = deed[0]
        if word == "tick":
            return self._tick(deed[1])
        wire = self._wires[deed[1]]
        if word == "wish":
            return wire.wish(deed[2], self._now)
        if word == "send":
            return wire.send()
        if word == "forge":
            return wire.put("up", deed[2])
        return self._do_at(wire, word, word if word in ("up", "down") else deed[2], deed[-1])

    def _is_deed(self, deed):
        if not is_tuple(deed, 2, 4) or not isinstance(deed[0], str) or SIZES.get(deed[0]) != len(deed):
            return False
        if deed[0] == "tick":
            return is_number(deed[1], 1, 1000)
        if not is_number(deed[1], 0, len(self._seats) - 1):
            return False
        if deed[0] == "forge":
            return is_letter(deed[2])
        return deed[0] not in ("lose", "copy") or deed[2] in ("up", "down")

    def _tick(self, n):
        # The table first: where it refuses, as it was told a later time itself, no time goes by.
        came = self._table.tick(self._now + n)
        self._now += n
        return came

    def _do_at(self, wire, word, way, at):
        things = wire.under(way)
        if not is_number(at, 0, len(things) - 1):
            raise NoPlace(at)
        if word == "lose":
            return wire.lose(way, at)
        if word == "copy":
            return wire.put(way, things[at])
        return wire.arrive(way, at, self._now)

    def under(self, player, way):
        """The list of what is under way on a line."""
        return self._wires[player].under(way)

    def now(self):
        """The time."""
        return self._now

    def table(self):
        """The very table, to be asked."""
        return self._table

    def seat(self, player):
        """The very seat of a player, to be asked."""
        return self._seats[player]

    def settle(self):
        """Sends fairly until all know all: how many rounds."""
        # A digest may raise in the midst, and then nothing may have changed: twins go ahead.
        table = self._table.twin()
        wires = [wire.twin(table) for wire in self._wires]
        many = _laps(table, wires, self._now)
        self._table.become(table)
        for wire, other in zip(self._wires, wires):
            wire.become(other)
        return many
