"""Judging: a house's books, whether they can be so, and what a name's ratings come from."""

from math import gcd

from playstead.books import is_result
from playstead.cups import cup_game
from playstead.errors import NoDay, NoLadder, NoName
from playstead.ladders import Ladder, because, factor_of, gain_of
from playstead.letters import GAME, PLAYER, are_two, is_sealed
from playstead.records import Replay, is_record, record_of, walked
from playstead.words import is_day, is_name, is_number, is_tuple


def books_of(house):
    """The tuple (members, ladder, records, catches, results, cups)."""
    games = house.games()
    caught = [game for game in games if house.table(game).catch() is not None]
    return (
        tuple(house.members().items()),
        house.ladder().told(),
        tuple([(record_of(house.table(game)), house.names_of(game), house.day_of(game)) for game in games]),
        tuple([(game, *house.table(game).catch()) for game in caught]),
        tuple(house.book().results()),
        tuple([(cup, *house.cup_asked(cup), _laps_of(house, cup)) for cup in house.cups()]),
    )


def _laps_of(house, cup):
    return tuple([(tuple(games), out) for games, out in house.cup_rounds(cup)])


def judged(books, digest):
    """None, or the first flaw of such books."""
    members, _, records, catches, results, cups = books
    keys = dict(members)
    flaw = _look_at_records(records, keys, digest)
    if flaw is None:
        flaw = _look_at_catches(catches, records, keys, digest)
    if flaw is None:
        flaw = _look_at_results(results, records, catches)
    if flaw is None:
        flaw = _look_at_cups(cups, records)
    return flaw


def _look_at_records(records, keys, digest):
    stood = {}
    for record, names, day in records:
        game = record[0]
        if not is_record(record) or game in stood or not _are_players(names, record, keys):
            return ("record", game, 0)
        stood[game] = True
        number, course = walked(record, [keys[name] for name in names], digest)
        if number is not None:
            return ("record", game, number)
        if (day is None) == course.is_over():
            return ("record", game, 0)
    return None


def _are_players(names, record, keys):
    players = record[1].told()[2]
    return (
        len(names) == players
        and all([name in keys for name in names])
        and len({name for name in names}) == players
    )


def _two_of(record):
    """The two letters of a record's entry two, None where it has none."""
    entries = record[3]
    return entries[-1][2:] if entries and entries[-1][0] == "two" else None


def _look_at_catches(catches, records, keys, digest):
    stood = {row[0][0]: row for row in records}
    caught = {}
    for game, one, other in catches:
        if game not in stood or game in caught or not _is_catch(stood[game], one, other, keys, digest):
            return ("catch", game)
        caught[game] = True
    for game in stood:
        if _two_of(stood[game][0]) is not None and game not in caught:
            return ("catch", game)
    return None


def _is_catch(row, one, other, keys, digest):
    record, names, day = row
    if not are_two(one, other) or one[GAME] != record[0] or one[PLAYER] >= len(names):
        return False
    key = keys[names[one[PLAYER]]]
    if not is_sealed(one, key, digest) or not is_sealed(other, key, digest):
        return False
    two = _two_of(record)
    # A catch ends the game: without an entry two it comes of a game that was over.
    return day is not None if two is None else two == (one, other)


def _look_at_results(results, records, catches):
    due = _due_results(records, catches)
    for game in sorted(set([*due, *[result[0] for result in results]])):
        found = [result for result in results if result[0] == game]
        if game not in due or found != [due[game]] or not is_result(found[0]):
            return ("result", game)
    return None


def _due_results(records, catches):
    """A dict from each game that is over to its result."""
    fallen = {game: one[PLAYER] for game, one, _ in catches}
    due = {}
    for record, names, day in records:
        game = record[0]
        if game in fallen:
            points = tuple([0 if player == fallen[game] else 2 for player in range(len(names))])
            due[game] = (game, day, names, points)
        elif day is not None:
            due[game] = (game, day, names, Replay(record).points())
    return due


def _look_at_cups(cups, records):
    pairs = {record[0]: names for record, names, _ in records}
    for cup, names, asked, laps in cups:
        for lap in range(1, len(laps) + 1):
            if lap > asked or not _is_lap(cup, names, laps[:lap], pairs):
                return ("cup", cup, lap)
    return None


def _is_lap(cup, names, laps, pairs):
    """Whether the last of some rounds can come behind the others."""
    games, out = laps[-1]
    ahead = [game for lap in laps[:-1] for game in lap[0]]
    placed = [name for game in games for name in game]
    if out is not None:
        placed.append(out)
        if out in [lap[1] for lap in laps[:-1]]:
            return False
    if len(placed) != len(names) or any([placed.count(name) != 1 for name in names]):
        return False
    if any([(one, other) in ahead or (other, one) in ahead for one, other in games]):
        return False
    return all([
        pairs.get(cup_game(cup, len(laps), k)) == game for k, game in enumerate(games, start=1)
    ])


def leads(house, name, day):
    """What a name's rating came from: (day, ahead, behind, rows) of each day up to that one."""
    if not is_name(name) or name not in house.members():
        raise NoName(name)
    if not is_day(day):
        raise NoDay(day)
    book, ladder = house.book(), house.ladder()
    told = []
    for one in sorted({result[1] for result in book.of(name)}):
        if one <= day:
            paper = because(book, name, one, ladder=ladder)
            rows = [(*row, _numbers(house, row[0], name)) for row in paper[2]]
            told.append((one, paper[0], paper[4], rows))
    return told


def _numbers(house, game, name):
    """The numbers of a game's entries that are the name's letters."""
    player = house.names_of(game).index(name)
    return tuple([
        at for at, entry in enumerate(house.table(game).entries(), start=1)
        if entry[0] in ("deed", "void") and entry[2][PLAYER] == player
    ])


def sums(rows, ladder):
    """Whether a thing is built as what leads tells, and its numbers are right by that ladder."""
    if not isinstance(ladder, Ladder):
        raise NoLadder("ladder")
    if not isinstance(rows, (list, tuple)):
        return False
    first, _, steps, least = ladder.told()
    last, behind, played = -1, first, 0
    for row in rows:
        if not _is_lead(row) or row[0] <= last or row[1] != behind:
            return False
        gain = gain_of(factor_of(steps, played), row[3])
        last, behind = row[0], max(behind + gain, least)
        if row[2] != behind:
            return False
        played += len({part[0] for part in row[3]})
    return True


def _is_lead(thing):
    return (
        is_tuple(thing, 4, 4)
        and is_day(thing[0])
        and is_number(thing[1])
        and is_number(thing[2])
        and isinstance(thing[3], (list, tuple))
        and len(thing[3]) > 0
        and all([_is_lead_row(part) for part in thing[3]])
        and _are_games(thing[3])
    )


def _is_lead_row(thing):
    return (
        is_tuple(thing, 5, 5)
        and is_name(thing[0])
        and is_name(thing[1])
        and _is_pair(thing[2])
        and thing[2] in ((0, 1), (1, 2), (1, 1))
        and _is_pair(thing[3])
        and _is_awaited(thing[3])
        and _are_numbers(thing[4])
    )


def _is_pair(thing):
    return is_tuple(thing, 2, 2) and is_number(thing[0], 0) and is_number(thing[1], 1)


def _is_awaited(pair):
    above, below = pair
    return above <= below and gcd(above, below) == 1


def _are_numbers(thing):
    return (
        isinstance(thing, tuple)
        and all([is_number(part, 1) for part in thing])
        and all([one < other for one, other in zip(thing[:-1], thing[1:])])
    )


def _are_games(rows):
    """Whether a day's rows are by games, rising, each with one to three others, unlike."""
    games = [row[0] for row in rows]
    return (
        games == sorted(games)
        and max([games.count(game) for game in games]) <= 3
        and len({(row[0], row[1]) for row in rows}) == len(rows)
    )
