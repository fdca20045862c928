"""Rules of small games, told as data."""

from playstead.errors import NoRule
from playstead.words import is_list, is_name, is_number, is_tuple

MOST = 40
LOSE = "lose"
EVEN = "even"


def _are_tests(thing, cells):
    return is_tuple(thing, 0, 4) and all([_is_test(part, cells) for part in thing])


def _is_test(thing, cells):
    return (
        is_tuple(thing, 3, 3)
        and is_number(thing[0], 0, cells - 1)
        and thing[1] in ("is", "least", "most")
        and is_number(thing[2], 0, 9)
    )


def _are_changes(thing, cells):
    return (
        is_tuple(thing, 1, 4)
        and all([_is_change(part, cells) for part in thing])
        and len({part[0] for part in thing}) == len(thing)
    )


def _is_change(thing, cells):
    if not is_tuple(thing, 3, 3) or not is_number(thing[0], 0, cells - 1):
        return False
    if thing[1] == "put":
        return is_number(thing[2], 0, 9)
    return thing[1] == "add" and is_number(thing[2], -9, 9)


def _are_moves(thing, cells, players):
    return (
        is_list(thing, 1, 16)
        and all([_is_move(part, cells, players) for part in thing])
        and len({part[0] for part in thing}) == len(thing)
    )


def _is_move(thing, cells, players):
    return (
        is_tuple(thing, 4, 4)
        and is_name(thing[0])
        and (thing[1] is None or is_number(thing[1], 0, players - 1))
        and _are_tests(thing[2], cells)
        and _are_changes(thing[3], cells)
    )


def _is_end(thing, cells, players):
    return is_tuple(thing, 2, 2) and _are_tests(thing[0], cells) and are_points(thing[1], players)


def are_points(thing, players):
    """Whether a thing is a tuple of points for so many players."""
    return is_tuple(thing, players, players) and all([is_number(part, 0, 4) for part in thing])


class Rule:
    """A rule of a game: its cells, its moves, and how it ends."""

    def __init__(self, start, moves, *, players=2, ends=(), most=MOST, stuck=LOSE):
        if not is_list(start, 1, 12) or not all([is_number(part, 0, 9) for part in start]):
            raise NoRule("start")
        if not is_number(players, 2, 4):
            raise NoRule("players")
        if not _are_moves(moves, len(start), players):
            raise NoRule("moves")
        if not is_list(ends, 0, 6) or not all([_is_end(part, len(start), players) for part in ends]):
            raise NoRule("ends")
        if not is_number(most, 1, 60):
            raise NoRule("most")
        if stuck not in (LOSE, EVEN):
            raise NoRule("stuck")
        self._told = (tuple(start), tuple(moves), players, tuple(ends), most, stuck)

    def told(self):
        """The tuple (start, moves, players, ends, most, stuck)."""
        return self._told

    def __eq__(self, other):
        return isinstance(other, Rule) and self._told == other._told
