"""The desk: a house's deeds as rows of text, and a house that is led and asked by rows."""

from playstead.clocks import is_told_by_form, read_told, told_text
from playstead.deeds import is_house_deed
from playstead.errors import NoLetter, NoText, SteadError
from playstead.houses import House
from playstead.judging import books_of, judged
from playstead.letters import is_key, is_letter, letter_text, read_letter
from playstead.words import are_names, is_name, is_number, read_number

# How many words a clock's told has.
CLOCK = 6


def deed_text(deed):
    """The row of a house's deed."""
    if not is_house_deed(deed) or not _has_text(deed):
        raise NoText(0)
    word = deed[0]
    if word == "open":
        return " ".join([word, deed[1], deed[2], *deed[3], told_text(deed[4])])
    if word == "cup":
        return " ".join([word, deed[1], str(deed[3]), deed[4], told_text(deed[5]), *deed[2]])
    if word in ("hear", "claim"):
        letters = " / ".join([letter_text(letter) for letter in deed[1:]])
        return f"{word} {letters}"
    return " ".join([str(part) for part in deed])


def _has_text(deed):
    """Whether the parts of a deed of which its form tells nothing are such as a row tells."""
    word = deed[0]
    if word == "member":
        return is_key(deed[2])
    if word == "open":
        return is_told_by_form(deed[4])
    if word == "cup":
        return is_number(deed[3], 0) and is_told_by_form(deed[5])
    if word in ("hear", "claim"):
        return all([is_letter(letter) for letter in deed[1:]])
    return word != "rule"


def read_deed(text):
    """The house's deed that a row tells."""
    deed = _read_deed(text) if isinstance(text, str) else None
    if deed is None:
        raise NoText(0)
    return deed


def _read_deed(text):
    words = text.split(" ")
    word = words[0]
    if word == "member":
        return _read_member(words)
    if word == "open":
        return _read_open(words)
    if word in ("hear", "claim"):
        return _read_letters(word, text.removeprefix(f"{word} ").split(" / "))
    if word == "tick":
        return _read_tick(words)
    if word == "cup":
        return _read_cup(words)
    if word == "round":
        return tuple(words) if len(words) == 2 and is_name(words[1]) else None
    return (word,) if text == "day" else None


def _read_member(words):
    if len(words) != 3 or not is_name(words[1]) or not is_key(words[2]):
        return None
    return tuple(words)


def _read_open(words):
    if len(words) < 3 + CLOCK or not are_names(words[1:-CLOCK]):
        return None
    told = read_told(" ".join(words[-CLOCK:]))
    return None if told is None else ("open", words[1], words[2], tuple(words[3:-CLOCK]), told)


def _read_letters(word, texts):
    if len(texts) != (1 if word == "hear" else 2):
        return None
    try:
        return (word, *[read_letter(text) for text in texts])
    except NoLetter:
        return None


def _read_tick(words):
    n = read_number(words[1]) if len(words) == 2 else None
    return None if n is None else ("tick", n)


def _read_cup(words):
    names = words[4 + CLOCK:]
    if len(words) < 4 + CLOCK or not is_name(words[1]) or not is_name(words[3]) or not are_names(names):
        return None
    rounds = read_number(words[2])
    told = read_told(" ".join(words[4:4 + CLOCK]))
    if rounds is None or told is None:
        return None
    return ("cup", words[1], tuple(names), rounds, words[3], told)


class Desk:
    """A house that is led and asked by rows."""

    def __init__(self, digest):
        self._digest = digest
        self._house = House(digest)
        # The name of the rule whose rows are being told, None where none is.
        self._name = None
        self._rows = []

    def say(self, row):
        """The answer to a row."""
        if not isinstance(row, str):
            return "what"
        try:
            return self._answer(row) if self._name is None else self._take_rule(row)
        except SteadError as e:
            return f"refused {e.word()}"

    def _take_rule(self, row):
        if row != "over":
            # A line feed would make two rows of one; with another sign it is as wrong.
            self._rows.append(row.replace("\n", "/"))
            return ".."
        name, rows = self._name, self._rows
        self._name, self._rows = None, []
        try:
            self._house.do(("rule", name, "".join([f"{part}\n" for part in rows])))
        except NoText as e:
            return f"no row {e.row}"
        return "ok"

    def _answer(self, row):
        words = row.split(" ")
        if len(words) == 2 and is_name(words[1]) and words[0] in ("rule", "world", "table", "rating"):
            return self._answer_name(words[0], words[1])
        if len(words) == 3 and words[0] == "left" and is_name(words[1]):
            return self._answer_left(words[1], read_number(words[2]))
        if row == "judge":
            flaw = judged(books_of(self._house), self._digest)
            return "ok" if flaw is None else _told(list(flaw))
        try:
            deed = read_deed(row)
        except NoText:
            return "what"
        return _told(self._house.do(deed))

    def _answer_name(self, word, name):
        if word == "rule":
            self._name = name
            return ".."
        if word == "world":
            return self._house.table(name).world().text()
        if word == "rating":
            return str(self._house.rating(name))
        rows = [f"{row[0]} {row[1]}" for row in self._house.cup_standing(name)]
        return ", ".join(rows)

    def _answer_left(self, game, player):
        if player is None:
            return "what"
        return str(self._house.table(game).left(player, self._house.now()))


def _told(thing):
    """What a deed tells, as a text."""
    if thing is None:
        return "ok"
    if isinstance(thing, list):
        return " ".join([str(part) for part in thing]) if thing else "-"
    return str(thing)
