"""The refusals: each a class of its own straight under SteadError."""


def _own(thing, deep=20):
    """The same thing, with lists and dicts of its own."""
    # However deep a thing is nested that is handed in, the refusal itself must come.
    if deep == 0:
        return thing
    if isinstance(thing, list):
        return [_own(part, deep - 1) for part in thing]
    if isinstance(thing, tuple):
        return tuple([_own(part, deep - 1) for part in thing])
    if isinstance(thing, dict):
        return {key: _own(thing[key], deep - 1) for key in thing}
    return thing


class SteadError(ValueError):
    """What all refusals stand under."""

    def word(self):
        """The class's name in small letters."""
        return self.__class__.__name__.lower()


class NoRule(SteadError):
    """What is no rule."""


class NoText(SteadError):
    """A text that isn't so by form."""

    def __init__(self, row):
        self.row = _own(row)


class NoMove(SteadError):
    """What is no move that is allowed."""

    def __init__(self, name):
        self.name = _own(name)


class NoPlayer(SteadError):
    """What is no player."""

    def __init__(self, player):
        self.player = _own(player)


class Over(SteadError):
    """Something is over."""


class NoClock(SteadError):
    """What is no clock."""


class NoTime(SteadError):
    """What is no time, or none that may come there."""

    def __init__(self, time):
        self.time = _own(time)


class Fallen(SteadError):
    """A player whose time has run out."""

    def __init__(self, player):
        self.player = _own(player)


class NoLetter(SteadError):
    """What is no letter."""


class NoKey(SteadError):
    """What is no key, or no list of as many keys as are due."""


class NoTable(SteadError):
    """What is no table with its seats."""


class NoEntry(SteadError):
    """A number of an entry that isn't there."""

    def __init__(self, number):
        self.number = _own(number)


class NoNews(SteadError):
    """What isn't built as news of the game."""


class Drift(SteadError):
    """News that contradict what is known."""

    def __init__(self, number):
        self.number = _own(number)


class NoWish(SteadError):
    """A deed that can't be wished."""


class TooMany(SteadError):
    """More than there may be at most."""

    def __init__(self, most):
        self.most = _own(most)


class NoPlace(SteadError):
    """What is no place on a line."""

    def __init__(self, at):
        self.at = _own(at)


class NoRecord(SteadError):
    """What is no record."""

    def __init__(self, row):
        self.row = _own(row)


class NoResult(SteadError):
    """What is no result."""


class NoGame(SteadError):
    """What is no game that stands."""

    def __init__(self, game):
        self.game = _own(game)


class NoLadder(SteadError):
    """What is no ladder."""


class NoDay(SteadError):
    """What is no day."""

    def __init__(self, day):
        self.day = _own(day)


class NoName(SteadError):
    """What is no name, or none that may stand there."""

    def __init__(self, name):
        self.name = _own(name)


class NoCup(SteadError):
    """What is no cup."""

    def __init__(self, cup):
        self.cup = _own(cup)


class NoPairing(SteadError):
    """There is no pairing."""


class NoDeed(SteadError):
    """What is no deed."""

    def __init__(self, at):
        self.at = _own(at)
