"""Courses: games as their entries lead them, for houses, seats and records alike."""

from playstead.clocks import Clock, is_time
from playstead.errors import NoClock, NoName, NoRule
from playstead.letters import AHEAD, DEED, GAME, MARK, PLACE, PLAYER, SEAL, SEEN, STAMP, are_two, is_letter
from playstead.rules import Rule
from playstead.words import is_name, is_number, is_tuple
from playstead.worlds import FALL, TWO, World


def is_entry(thing):
    """Whether a thing is built as an entry."""
    if not is_tuple(thing, 2, 4) or not is_time(thing[1]):
        return False
    if thing[0] in ("deed", "void"):
        return len(thing) == 3 and is_letter(thing[2])
    if thing[0] == "fall":
        return len(thing) == 3 and is_number(thing[2], 0)
    if thing[0] == "two":
        return len(thing) == 4 and is_letter(thing[2]) and is_letter(thing[3])
    return thing[0] == "open" and len(thing) == 2


def can_do(world, player, deed):
    """Whether the player's deed can be done in that world."""
    if world.why() is not None:
        return False
    return deed[0] != "move" or world.turn() == player and deed[1] in world.allowed()


def do_deed(world, player, deed):
    """Does a deed that can be done."""
    if deed[0] == "move":
        world.play(deed[1])
    elif deed[0] == "give":
        world.give(player)
    else:
        world.even(player)


class Course:
    """A game behind its entries. It is never changed: an entry that joins makes another one."""

    def __init__(self, game, rule, clock):
        if not is_name(game):
            raise NoName(game)
        if not isinstance(rule, Rule):
            raise NoRule("rule")
        players = rule.told()[2]
        if not isinstance(clock, Clock) or clock.told()[0] != players:
            raise NoClock("clock")
        self.game = game
        self.players = players
        self._rule = rule
        self._entries = []
        # World and clock behind each number of entries, from none on.
        self._worlds = [World(rule)]
        self._clocks = [clock.fresh()]
        # Each player's letters that stand, by their places.
        self._letters = [[] for _ in range(players)]

    def __len__(self):
        return len(self._entries)

    def entries(self):
        """The list of all entries."""
        return list(self._entries)

    def world(self, n):
        """The world behind n entries, a twin."""
        return self._worlds[n].twin()

    def clock(self, n):
        """The clock behind n entries, a twin."""
        return self._clocks[n].twin()

    def mark(self, n, digest):
        """The mark behind n entries."""
        return digest(f"{n} {self._worlds[n].text()}")

    def is_over(self):
        """Whether the game is over."""
        return self._worlds[-1].why() is not None

    def points(self):
        """The players' points, None where the game isn't over."""
        return self._worlds[-1].points()

    def is_of_it(self, letter):
        """Whether a letter is of this game and a player of it."""
        return letter[GAME] == self.game and letter[PLAYER] < self.players

    def next_place(self, player):
        """The place of the player's next letter."""
        return len(self._letters[player]) + 1

    def last_seal(self, player):
        """The seal of the player's last letter that stands, 0 where none does."""
        letters = self._letters[player]
        return letters[-1][SEAL] if letters else 0

    def letter_at(self, player, place):
        """The player's letter that stands at that place, None where none does."""
        letters = self._letters[player]
        return letters[place - 1] if place <= len(letters) else None

    def is_drift(self, letter, digest):
        """Whether a letter's seen and mark are not of this game."""
        return letter[SEEN] > len(self._entries) or letter[MARK] != self.mark(letter[SEEN], digest)

    def fall_by(self, time):
        """The entry fall that is due by that time, None where none is."""
        clock = self._clocks[-1]
        falls = clock.falls()
        return None if falls is None or falls > time else ("fall", falls, clock.running())

    def entry_of(self, letter, time):
        """The entry as which a letter joins at that time."""
        can = can_do(self._worlds[-1], letter[PLAYER], letter[DEED])
        return ("deed" if can else "void", time, letter)

    def follows(self, entry):
        """Whether an entry can follow here; of marks and seals nothing is asked."""
        if not is_entry(entry):
            return False
        if not self._entries:
            return entry[0] == "open"
        if entry[0] == "open" or self.is_over() or entry[1] < self._entries[-1][1]:
            return False
        fall = self.fall_by(entry[1])
        if entry[0] == "fall" or fall is not None:
            return entry == fall
        if entry[0] == "two":
            return are_two(entry[2], entry[3]) and self.is_of_it(entry[2])
        return self._is_next(entry[2]) and entry == self.entry_of(entry[2], entry[1])

    def _is_next(self, letter):
        return (
            self.is_of_it(letter)
            and letter[PLACE] == self.next_place(letter[PLAYER])
            and letter[AHEAD] == self.last_seal(letter[PLAYER])
        )

    def joined(self, entry):
        """The course behind an entry that can follow here."""
        world = self._worlds[-1].twin()
        clock = self._clocks[-1].twin()
        _lead(world, clock, entry)
        other = Course(self.game, self._rule, clock)
        other._entries = [*self._entries, entry]
        other._worlds = [*self._worlds, world]
        other._clocks = [*self._clocks, clock]
        other._letters = [list(letters) for letters in self._letters]
        if entry[0] in ("deed", "void"):
            other._letters[entry[2][PLAYER]].append(entry[2])
        return other


def _lead(world, clock, entry):
    """Leads a world and its clock on by an entry."""
    word, time = entry[:2]
    if word == "open" and world.turn() is not None:
        clock.begin(world.turn(), time)
    elif word == "deed":
        _lead_by_letter(world, clock, entry[2], time)
    elif word == "fall":
        world.give(entry[2], why=FALL)
        clock.stop(time)
    elif word == "two":
        world.give(entry[2][PLAYER], why=TWO)
        clock.stop(time)


def _lead_by_letter(world, clock, letter, time):
    do_deed(world, letter[PLAYER], letter[DEED])
    if world.why() is not None:
        clock.stop(time)
    elif letter[DEED][0] == "move":
        clock.press(time, late=max(0, time - letter[STAMP]))
