"""Pairings: who meets whom in a tournament, and how it stands."""

from playstead.books import is_result
from playstead.errors import NoPairing, NoResult
from playstead.words import are_names, are_unlike, is_list, is_number, is_tuple


def is_draw(thing):
    """Whether a thing is a list of names that can be paired."""
    return is_list(thing, 2, 10) and are_names(thing) and are_unlike(thing)


def _are_points(thing, names):
    return isinstance(thing, dict) and len(thing) == len(names) and all([
        name in thing and is_number(thing[name], 0, 100) for name in names
    ])


def _are_met(thing, names):
    return isinstance(thing, (list, tuple)) and all([_is_pair(part, names) for part in thing])


def _is_pair(thing, names):
    return is_tuple(thing, 2, 2) and thing[0] in names and thing[1] in names and thing[0] != thing[1]


def _are_sat(thing, names):
    return isinstance(thing, (list, tuple)) and all([part in names for part in thing])


def _are_firsts(thing, names):
    if thing is None:
        return True
    return isinstance(thing, dict) and all([name in names and is_number(thing[name], 0, 100) for name in thing])


def _best(places, worths, met):
    """The least sum of squares and its least pairs; None where the places can't be paired."""
    if not places:
        return (0, [])
    best = None
    one = places[0]
    # Partners rise, so of pairings that are as good the first one found is the least.
    for at, two in enumerate(places[1:], start=1):
        if (one, two) in met:
            continue
        rest = _best([*places[1:at], *places[at + 1:]], worths, met)
        if rest is None:
            continue
        whole = rest[0] + (worths[one] - worths[two]) ** 2
        if best is None or whole < best[0]:
            best = (whole, [(one, two), *rest[1]])
    return best


def _pairs(names, worths, met, sat):
    """The best pairs of places, and the place that sits out or None."""
    places = list(range(len(names)))
    if len(places) % 2 == 0:
        outs = [None]
    else:
        outs = sorted([at for at in places if names[at] not in sat], key=lambda at: (worths[at], -at))
    for out in outs:
        best = _best([at for at in places if at != out], worths, met)
        if best is not None:
            return (best[1], out)
    raise NoPairing("none")


def paired(names, *, points, met=(), sat=(), firsts=None):
    """The pair (games, out): the best games among these names, and who sits out."""
    if not is_draw(names):
        raise NoPairing("names")
    if not _are_points(points, names):
        raise NoPairing("points")
    if not _are_met(met, names):
        raise NoPairing("met")
    if not _are_sat(sat, names):
        raise NoPairing("sat")
    if not _are_firsts(firsts, names):
        raise NoPairing("firsts")
    places = {name: at for at, name in enumerate(names)}
    met_places = {}
    for one, other in met:
        met_places[(places[one], places[other])] = True
        met_places[(places[other], places[one])] = True
    pairs, out = _pairs(names, [points[name] for name in names], met_places, sat)
    counts = {} if firsts is None else firsts
    games = [_in_order(names[one], names[two], counts) for one, two in pairs]
    return (games, None if out is None else names[out])


def _in_order(one, two, counts):
    """The two, who was first less often ahead; the one ahead in the draw is told first."""
    return (two, one) if counts.get(two, 0) < counts.get(one, 0) else (one, two)


def _are_results(thing, names):
    return (
        isinstance(thing, (list, tuple))
        and all([_is_result_of_two(part, names) for part in thing])
        and are_unlike([part[0] for part in thing])
    )


def _is_result_of_two(thing, names):
    return is_result(thing) and len(thing[2]) == 2 and all([name in names for name in thing[2]])


def standing(names, results):
    """The list of (name, points, others, wins), the best first."""
    if not is_draw(names):
        raise NoPairing("names")
    if not _are_results(results, names):
        raise NoResult("results")
    halves = []
    for result in results:
        (one, other), (own, worth) = result[2:]
        halves.append((one, other, own, worth))
        halves.append((other, one, worth, own))
    points_of = {name: sum([half[2] for half in halves if half[0] == name]) for name in names}
    rows = [_standing_row(name, halves, points_of) for name in names]
    # Names that are alike in all stay as they are in the draw.
    return sorted(rows, key=lambda row: (-row[1], -row[2], -row[3]))


def _standing_row(name, halves, points_of):
    own = [half for half in halves if half[0] == name]
    others = sum([points_of[half[1]] for half in own])
    wins = len([half for half in own if half[2] > half[3]])
    return (name, points_of[name], others, wins)
