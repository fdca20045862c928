"""Records: games as they were played, as texts, looked at entry by entry, and played again."""

from playstead.clocks import clock_of, read_told, told_text
from playstead.courses import Course, is_entry
from playstead.errors import NoClock, NoEntry, NoKey, NoLetter, NoRecord, NoText
from playstead.letters import DEED, PLAYER, is_key, is_letter, is_sealed, letter_text, read_letter
from playstead.rules import Rule
from playstead.ruletexts import read_rule_rows, rule_of, rule_text
from playstead.tables import Table
from playstead.words import is_list, is_name, is_number, is_tuple, read_number

# How many rows stand ahead of where the clock's row may come: the record's own and the rule's first two.
HEAD = 3


def _is_told(thing, players):
    try:
        clock_of(thing, players)
    except NoClock:
        return False
    return True


def is_record(thing):
    """Whether a thing is built as a record."""
    return (
        is_tuple(thing, 4, 4)
        and is_name(thing[0])
        and isinstance(thing[1], Rule)
        and _is_told(thing[2], thing[1].told()[2])
        and isinstance(thing[3], tuple)
        and all([is_entry(part) for part in thing[3]])
    )


def record_of(table):
    """The record of a table's game as it is."""
    if not isinstance(table, Table):
        raise NoRecord(0)
    return (table.game, table.rule, table.clock().told(), tuple(table.entries()))


def record_text(record):
    """The record's rows, each ended by a line feed."""
    if not is_record(record):
        raise NoRecord(0)
    game, rule, told, entries = record
    rows = [_clock_row(told), *[_entry_row(entry) for entry in entries]]
    return "".join([f"{_game_row(game)}\n", rule_text(rule), *[f"{row}\n" for row in rows]])


def read_record(text):
    """The record that a text tells."""
    if not isinstance(text, str):
        raise NoRecord(0)
    rows = text.split("\n")
    ended = rows[-1] == ""
    if ended:
        rows.pop()
    at = _clock_at(rows)
    game = _read_game(rows)
    parts = _read_rule_part(rows[1:at])
    if at == len(rows):
        raise NoRecord(at)
    behind = _read_from_clock(rows, at)
    if not ended:
        raise NoRecord(len(rows))
    rule = rule_of(rows[1:at], parts)
    return (game, rule, clock_of(behind[0], rule.told()[2]).told(), tuple(behind[1:]))


def _clock_at(rows):
    """The place of the clock's row, or how many rows there are."""
    for at in range(HEAD, len(rows)):
        if rows[at].startswith("clock "):
            return at
    return len(rows)


def _read_rule_part(rows):
    try:
        return read_rule_rows(rows)
    except NoText as e:
        raise NoRecord(1 + e.row)


def _read_from_clock(rows, at):
    """What the clock's row tells, and each behind it."""
    parts = [_read_clock(rows[at]), *[_read_entry(row) for row in rows[at + 1:]]]
    for k, part in enumerate(parts):
        if part is None:
            raise NoRecord(at + k)
    return parts


def _game_row(game):
    return f"record {game}"


def _read_game(rows):
    if not rows:
        raise NoRecord(0)
    game = rows[0].removeprefix("record ")
    if not is_name(game) or rows[0] != _game_row(game):
        raise NoRecord(0)
    return game


def _clock_row(told):
    return f"clock {told_text(told)}"


def _read_clock(row):
    return read_told(row.removeprefix("clock "))


def _entry_row(entry):
    word, time, *rest = entry
    if not rest:
        return f"{word} {time}"
    tail = " / ".join([letter_text(part) if is_letter(part) else str(part) for part in rest])
    return f"{word} {time} {tail}"


def _read_entry(row):
    words = row.split(" ", 2)
    time = read_number(words[1]) if len(words) > 1 else None
    entry = (words[0], time, *_read_tail(words[0], words[2:]))
    return entry if is_entry(entry) else None


def _read_tail(word, tails):
    """What stands behind an entry's time, in none or one text."""
    if word == "fall":
        return [read_number(tail) for tail in tails]
    return [_letter_or_none(part) for tail in tails for part in tail.split(" / ")]


def _letter_or_none(text):
    try:
        return read_letter(text)
    except NoLetter:
        return None


def walked(record, keys, digest):
    """The number of the first entry that can't follow, None where all can, and the course ahead of it."""
    game, rule, told, entries = record
    course = Course(game, rule, clock_of(told, rule.told()[2]))
    for entry in entries:
        if not course.follows(entry) or not _is_witnessed(course, entry, keys, digest):
            return (len(course) + 1, course)
        course = course.joined(entry)
    return (None, course)


def _is_witnessed(course, entry, keys, digest):
    """Whether an entry's letters tell marks that are right, and are sealed, as far as these are looked at."""
    if digest is None:
        return True
    if entry[0] in ("deed", "void") and course.is_drift(entry[2], digest):
        return False
    letters = [part for part in entry[2:] if is_letter(part)]
    return keys is None or all([is_sealed(letter, keys[letter[PLAYER]], digest) for letter in letters])


def flaw(record, *, keys=None, digest=None):
    """The number of the first entry that can't follow there, from 1; None where all can."""
    if not is_record(record):
        raise NoRecord(0)
    players = record[1].told()[2]
    if digest is not None and keys is not None and not _are_keys(keys, players):
        raise NoKey("keys")
    return walked(record, keys, digest)[0]


def _are_keys(thing, players):
    return is_list(thing, players, players) and all([is_key(part) for part in thing])


class Replay:
    """A record, played again."""

    def __init__(self, record):
        if not is_record(record):
            raise NoRecord(0)
        number, course = walked(record, None, None)
        if number is not None:
            raise NoRecord(number)
        self._course = course

    def _look_at_number(self, n):
        if not is_number(n, 0, len(self._course)):
            raise NoEntry(n)

    def world(self, n):
        """The world behind n entries."""
        self._look_at_number(n)
        return self._course.world(n)

    def clock(self, n):
        """The clock behind n entries."""
        self._look_at_number(n)
        return self._course.clock(n)

    def left(self, n, player, time):
        """What is left to the player at that time, by the clock behind n entries."""
        return self.clock(n).left(player, time)

    def moves(self):
        """The list of (number, time, player, name) of all moves."""
        deeds = [(at, *entry[1:]) for at, entry in enumerate(self._course.entries(), start=1) if entry[0] == "deed"]
        return [
            (at, time, letter[PLAYER], letter[DEED][1]) for at, time, letter in deeds if letter[DEED][0] == "move"
        ]

    def points(self):
        """The tuple of the players' points, None where it isn't over."""
        return self._course.points()

    def __len__(self):
        return len(self._course)
