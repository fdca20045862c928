"""Rules as texts, and rules read from texts."""

from playstead.errors import NoRule, NoText
from playstead.rules import EVEN, LOSE, Rule
from playstead.words import is_name, read_number


def rule_text(rule):
    """The rule's rows, each ended by a line feed."""
    if not isinstance(rule, Rule):
        raise NoRule("rule")
    start, moves, players, ends, most, stuck = rule.told()
    rows = [_head_row(players, most, stuck), _cells_row(start)]
    rows.extend([_move_row(*move) for move in moves])
    rows.extend([_end_row(*end) for end in ends])
    return "".join([f"{row}\n" for row in rows])


def read_rule(text):
    """The rule that a text tells."""
    if not isinstance(text, str):
        raise NoText(0)
    rows = text.split("\n")
    ended = rows[-1] == ""
    if ended:
        rows.pop()
    parts = read_rule_rows(rows)
    if len(rows) < 2 or not ended:
        raise NoText(len(rows))
    return rule_of(rows, parts)


def read_rule_rows(rows):
    """What each of a rule's rows tells; NoText of the first that isn't so by form."""
    parts = []
    for at, row in enumerate(rows):
        parts.append(_read_row(row, at, at > 2 and _is_end_row(rows[at - 1])))
        if parts[at] is None:
            raise NoText(at)
    return parts


def rule_of(rows, parts):
    """The rule of such rows, two at least, and of what they tell; NoRule where it is none."""
    players, most, stuck = parts[0]
    moves = [parts[at] for at in range(2, len(rows)) if not _is_end_row(rows[at])]
    ends = [parts[at] for at in range(2, len(rows)) if _is_end_row(rows[at])]
    return Rule(parts[1], moves, players=players, ends=ends, most=most, stuck=stuck)


def _is_end_row(row):
    return row.startswith("end ")


def _read_row(row, at, behind_end):
    if at == 0:
        return _read_head(row)
    if at == 1:
        return _read_cells(row)
    if behind_end or _is_end_row(row):
        return _read_end(row)
    return _read_move(row)


# Each reader takes a row apart as if it were right, then writes it anew: only a row that is right comes out the same.


def _head_row(players, most, stuck):
    return f"rule {players} players, most {most}, stuck {stuck}"


def _read_head(row):
    words = row.replace(",", "").split(" ")
    if len(words) != 7 or words[6] not in (LOSE, EVEN):
        return None
    players = read_number(words[1], 2)
    most = read_number(words[4], 2)
    if players is None or most is None or row != _head_row(players, most, words[6]):
        return None
    return (players, most, words[6])


def _cells_row(start):
    return f"cells {_numbers_text(start)}"


def _read_cells(row):
    start = _read_numbers(row.removeprefix("cells "))
    return start if start is not None and row == _cells_row(start) else None


def _move_row(name, by, tests, changes):
    who = "any" if by is None else by
    return f"move {name} by {who}{_when_text(tests)} then {_triples_text(changes)}"


def _read_move(row):
    # The last of such words: a move may be called so, too.
    head, _, tail = row.rpartition(" then ")
    words = head.split(" ", 5)
    if len(words) not in (4, 6) or not is_name(words[1]):
        return None
    by = None if words[3] == "any" else read_number(words[3], 2)
    tests = _read_triples(words[5], ("is", "least", "most")) if len(words) == 6 else ()
    changes = _read_triples(tail, ("put", "add"))
    if tests is None or changes is None or row != _move_row(words[1], by, tests, changes):
        return None
    return (words[1], by, tests, changes)


def _end_row(tests, points):
    return f"end{_when_text(tests)} then {_numbers_text(points)}"


def _read_end(row):
    head, _, tail = row.rpartition(" then ")
    words = head.split(" ", 2)
    tests = _read_triples(words[2], ("is", "least", "most")) if len(words) == 3 else ()
    points = _read_numbers(tail)
    if tests is None or points is None or row != _end_row(tests, points):
        return None
    return (tests, points)


def _when_text(tests):
    return f" when {_triples_text(tests)}" if tests else ""


def _triples_text(triples):
    return ", ".join([f"{cell} {word} {n}" for cell, word, n in triples])


def _read_triples(text, known):
    triples = [_read_triple(part.split(" "), known) for part in text.split(", ")]
    return None if None in triples else tuple(triples)


def _read_triple(words, known):
    if len(words) != 3 or words[1] not in known:
        return None
    cell = read_number(words[0], 2)
    n = _read_added(words[2]) if words[1] == "add" else read_number(words[2], 2)
    return None if cell is None or n is None else (cell, words[1], n)


def _read_added(word):
    number = read_number(word.removeprefix("-"), 2)
    return -number if number is not None and word.startswith("-") else number


def _numbers_text(numbers):
    return " ".join([str(number) for number in numbers])


def _read_numbers(text):
    numbers = [read_number(word, 2) for word in text.split(" ")]
    return None if None in numbers else tuple(numbers)
