"""[80]: books of results."""

import copy
import random
import unittest

from makers import NO_NUMBERS, OTHERS
from playstead.books import Book
from playstead.errors import NoGame, NoResult, TooMany

FIRST = ("nim", 3, ("bob", "ada"), (2, 0))
MORE = [FIRST, ("abc", 7, ("cyd", "ada", "bob"), (1, 1, 4)), ("abd", 3, ("dan", "eve"), (0, 0)),
        ("aaa", 400, ("ada", "eve", "cyd", "dan"), (4, 0, 0, 0)), ("zzz", 0, ("cyd", "bob"), (1, 1))]
SORTED = [MORE[4], MORE[2], MORE[0], MORE[1], MORE[3]]


def book_of(results=MORE):
    book = Book()
    for result in results:
        book.tell(result)
    return book


def whole(book):
    return copy.deepcopy([book.results(), book.days(), book.names(), len(book),
                          [book.of(name) for name in ["ada", "bob", "cyd", "dan", "eve", "fay"]]])


class Case(unittest.TestCase):
    def refused(self, kind, field, thing, book, do):
        ahead = whole(book)
        with self.assertRaises(kind, msg=repr(thing)) as caught:
            do()
        if field is not None:
            self.assertEqual(repr(getattr(caught.exception, field)), repr(thing))
        self.assertEqual(whole(book), ahead)


class Results(Case):
    def wrongs(self):
        wrong = [*OTHERS, 0, list(FIRST), FIRST[:3], (*FIRST, 0)]
        for at, things in [
            (0, [*NO_NUMBERS, 0, "Nim", "abcdefghi", "a1"]),
            (1, [*NO_NUMBERS, -1, 401, 10 ** 39]),
            (2, [*OTHERS, 0, ["bob", "ada"], ("bob",), ("bob", "bob"), ("bob", "ada", "bob"), ("bob", "Ada"),
                 ("bob", None), "bo", ("a", "b", "c", "d", "e"), ("bob", ["ada"])]),
            (3, [*OTHERS, 0, [2, 0], (2,), (2, 0, 0), (2, -1), (2, 5), (2, True), (False, 2), (2, None), ("2", "0")]),
        ]:
            wrong += [(*FIRST[:at], thing, *FIRST[at + 1:]) for thing in things]
        wrong += [(*FIRST[:2], names, (1,) * len(names)) for names in [(), ("bob",), ("a", "b", "c", "d", "e")]]
        return wrong

    def test_no_result(self):
        book = book_of(MORE[1:])
        for thing in self.wrongs():
            ahead = repr(thing)
            self.refused(NoResult, None, thing, book, lambda: book.tell(thing))
            self.assertEqual(repr(thing), ahead)
        self.assertIsNone(book.tell(result=FIRST))

    def test_the_bounds(self):
        for result in [("a", 0, ("a", "b"), (0, 4)), ("abcdefgh", 400, ("a", "b", "c", "abcdefgh"), (4, 4, 4, 4))]:
            self.assertEqual(book_of([result]).results(), [result])

    def test_a_game_that_stands(self):
        book = book_of()
        for thing in [FIRST, ("nim", 9, ("x", "y"), (1, 1))]:
            self.refused(NoResult, None, thing, book, lambda: book.tell(thing))

    def test_too_many(self):
        names = [a + b for a in "abcdefghijklmnopqrst" for b in "abcdefghijklmnopqrstu"]
        book = book_of([(name, 1, ("ada", "bob"), (1, 1)) for name in names[:400]])
        with self.assertRaises(TooMany) as caught:
            book.tell((names[400], 1, ("ada", "bob"), (1, 1)))
        self.assertEqual((caught.exception.most, len(book)), (400, 400))
        for thing in [None, (names[0], 1, ("ada", "bob"), (1, 1)), (names[400], 401, ("ada", "bob"), (1, 1))]:
            self.refused(NoResult, None, thing, book, lambda: book.tell(thing))
        book.strike(names[7])
        book.tell((names[400], 1, ("ada", "bob"), (1, 1)))
        self.assertEqual(len(book), 400)
        with self.assertRaises(TooMany):
            book.twin().tell((names[7], 1, ("ada", "bob"), (1, 1)))


class Mended(Case):
    def test_mend(self):
        book = book_of()
        self.assertIsNone(book.mend("nim", (0, 2)))
        self.assertIsNone(book.mend(game="abc", points=(0, 0, 0)))
        expected = [MORE[4], MORE[2], ("nim", 3, ("bob", "ada"), (0, 2)),
                    ("abc", 7, ("cyd", "ada", "bob"), (0, 0, 0)), MORE[3]]
        self.assertEqual(book.results(), expected)
        book.mend("nim", (0, 2))
        self.assertEqual(book.results(), expected)

    def test_strike(self):
        book = book_of()
        self.assertIsNone(book.strike("abd"))
        self.assertIsNone(book.strike(game="zzz"))
        self.assertEqual((book.results(), len(book)), ([MORE[0], MORE[1], MORE[3]], 3))
        self.assertEqual((book.days(), book.of("dan")), ([3, 7, 400], [MORE[3]]))
        book.tell(("abd", 9, ("fay", "gil"), (1, 1)))
        self.assertEqual(book.names(), ["ada", "bob", "cyd", "dan", "eve", "fay", "gil"])

    def test_no_game(self):
        book = book_of()
        book.strike("abd")
        for thing in [*NO_NUMBERS, 0, "abd", "nym", "Nim", ("nim",), ["nim"]]:
            for do in [lambda: book.mend(thing, (1, 1)), lambda: book.strike(thing), lambda: book.mend(thing, None)]:
                self.refused(NoGame, "game", thing, book, do)

    def test_no_points(self):
        book = book_of()
        for thing in [*OTHERS, 0, [2, 0], (2,), (2, 0, 0), (2, -1), (2, 5), (2, True), ("2", "0"), (2, None)]:
            self.refused(NoResult, None, thing, book, lambda: book.mend("nim", thing))
        self.refused(NoResult, None, (1, 1), book, lambda: book.mend("abc", (1, 1)))


class Told(Case):
    def test_by_day_then_game(self):
        for seed in range(20):
            results = list(MORE)
            random.Random(seed).shuffle(results)
            book = book_of(results)
            self.assertEqual(whole(book), whole(book_of()))
            self.assertEqual(book.results(), SORTED)

    def test_of(self):
        book = book_of()
        self.assertEqual(book.of("ada"), [SORTED[2], SORTED[3], SORTED[4]])
        self.assertEqual(book.of(name="dan"), [SORTED[1], SORTED[4]])
        for thing in [*OTHERS, 0, "fay", ("ada",), "nim"]:
            self.assertEqual(book.of(thing), [])

    def test_days_names_and_len(self):
        book = book_of()
        self.assertEqual((book.days(), book.names(), len(book)),
                         ([0, 3, 7, 400], ["ada", "bob", "cyd", "dan", "eve"], 5))
        empty = Book()
        self.assertEqual((empty.results(), empty.days(), empty.names(), len(empty)), ([], [], [], 0))

    def test_twins_go_their_own_ways(self):
        book = book_of()
        twin, ahead = book.twin(), whole(book)
        self.assertEqual(whole(twin), ahead)
        twin.strike("nim")
        twin.mend("abc", (0, 0, 0))
        twin.tell(("new", 1, ("fay", "ada"), (1, 1)))
        self.assertEqual(whole(book), ahead)
        behind = whole(twin)
        book.strike("aaa")
        self.assertEqual(whole(twin), behind)

    def test_what_is_told_is_the_askers_own(self):
        book = book_of()
        ahead = whole(book)
        for told in [book.results(), book.of("ada"), book.days(), book.names()]:
            told.clear()
            told.append(None)
        self.assertEqual(whole(book), ahead)
        self.assertEqual(whole(book), ahead)


if __name__ == "__main__":
    unittest.main()
