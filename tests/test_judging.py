"""[110], [111]: a house's books, judged, and what ratings come from."""

import copy
import random
import unittest

from guests import CLOCK, CLOCKS, MEMBERS, RULES, chance_house, house_of, house_told, sent
from makers import NO_NUMBERS, OTHERS, Digest, DigestFails, digest
from playstead.books import Book
from playstead.errors import NoDay, NoLadder, NoName
from playstead.houses import House, led
from playstead.judging import books_of, judged, leads, sums
from playstead.ladders import Ladder, because, rating
from playstead.records import record_of

UP, DOWN, GIVE, EVEN = ("move", "up"), ("move", "down"), ("give",), ("even",)
ONE, TWO = ("move", "one"), ("move", "two")
MEMBER, LADDER, RECORD, CATCH, RESULT, CUP = range(6)


def rich_house():
    """A house with games of each end, catches of games that were over and weren't, and a cup."""
    house = house_of()
    for game, rule, names in [("mover", "take", ("ada", "bob")), ("given", "three", ("cyd", "ada", "bob")),
                              ("late", "long", ("bob", "cyd")), ("two", "long", ("dan", "ada"))]:
        house.do(("open", game, rule, names, CLOCKS[len(names)]))
    house.do(("day",))
    for name, deed in [("ada", TWO), ("bob", TWO), ("bob", TWO), ("ada", ONE)]:
        house.do(("hear", sent(house, "mover", name, deed)))
    one, other = sent(house, "two", "ada", UP), sent(house, "two", "ada", GIVE)
    house.do(("hear", one))
    house.do(("hear", sent(house, "two", "dan", UP)))
    house.do(("hear", other))
    for name, deed in [("cyd", UP), ("ada", DOWN), ("ada", EVEN)]:
        house.do(("hear", sent(house, "given", name, deed)))
    pair = [sent(house, "given", "bob", deed, place=4) for deed in [EVEN, GIVE]]
    house.do(("hear", sent(house, "given", "cyd", GIVE)))
    house.do(("day",))
    house.do(("claim", *pair))
    house.do(("tick", 100))
    house.do(("open", "begun", "long", ("dan", "eve"), CLOCK))
    house.do(("hear", sent(house, "begun", "dan", UP)))
    house.do(("open", "short", "over", ("eve", "dan"), CLOCK))
    house.do(("cup", "x", ("ada", "bob", "cyd"), 3, "take", CLOCK))
    for _ in range(2):
        house.do(("round", "x"))
    house.do(("hear", sent(house, "xaa", "ada", GIVE)))
    house.do(("day",))
    return house


HOUSE = rich_house()
BOOKS = books_of(HOUSE)
AT = {row[0][0]: at for at, row in enumerate(BOOKS[RECORD])}


def with_part(part, rows, books=BOOKS):
    return (*books[:part], tuple(rows), *books[part + 1:])


def with_row(part, at, *rows, books=BOOKS):
    """The books with other rows for one row of a part."""
    return with_part(part, [*books[part][:at], *rows, *books[part][at + 1:]], books)


def with_record(of, /, *, books=BOOKS, **parts):
    """The books with another record of a game, or other names or another day beside it."""
    record, names, day = books[RECORD][AT[of]]
    at = {"game": 0, "rule": 1, "clock": 2, "entries": 3}
    for part in parts:
        if part in at:
            record = (*record[:at[part]], parts[part], *record[at[part] + 1:])
    row = (record, parts.get("names", names), parts.get("day", day))
    return with_row(RECORD, AT[of], row, books=books)


def entries_of(game):
    return BOOKS[RECORD][AT[game]][0][3]


class Case(unittest.TestCase):
    def judges(self, books, flaw):
        ahead = copy.deepcopy(books)
        self.assertEqual(judged(books, digest), flaw)
        self.assertEqual(books, ahead)
        self.assertEqual(repr(books[RESULT:]), repr(ahead[RESULT:]))


class Books(Case):
    def test_the_tuple(self):
        members, ladder, records, catches, results, cups = BOOKS
        self.assertEqual(members, tuple(sorted(MEMBERS.items())))
        self.assertEqual(ladder, Ladder().told())
        self.assertEqual([row[0][0] for row in records], HOUSE.games())
        for record, names, day in records:
            game = record[0]
            self.assertEqual((record, names, day),
                             (record_of(HOUSE.table(game)), HOUSE.names_of(game), HOUSE.day_of(game)))
        self.assertEqual([row[0] for row in catches], ["given", "two"])
        for game, one, other in catches:
            self.assertEqual((one, other), HOUSE.table(game).catch())
        self.assertEqual(results, tuple(HOUSE.book().results()))
        self.assertEqual(cups, (("x", ("ada", "bob", "cyd"), 3,
                                 (((("ada", "bob"),), "cyd"), ((("cyd", "ada"),), "bob"))),))

    def test_all_tuples(self):
        def look(thing):
            self.assertNotIsInstance(thing, (list, dict, set))
            if isinstance(thing, tuple):
                for part in thing:
                    look(part)

        look(BOOKS)
        look(books_of(House(digest)))

    def test_of_an_empty_house(self):
        house = House(digest, ladder=Ladder(first=9, least=9))
        self.assertEqual(books_of(house=house), ((), (9, 400, ((10, 40), (None, 20)), 9), (), (), (), ()))
        self.assertIsNone(judged(books=books_of(house), digest=digest))

    def test_it_stays(self):
        ahead = house_told(HOUSE)
        self.assertEqual(books_of(HOUSE), BOOKS)
        self.assertEqual(house_told(HOUSE), ahead)

    def test_of_any_house_nothing_is_wrong(self):
        for seed in range(100, 130):
            house = chance_house(random.Random(seed))
            books = books_of(house)
            self.judges(books, None)
            self.assertEqual(books_of(led(digest, house.deeds(), ladder=house.ladder())), books)

    def test_in_any_order_of_its_parts(self):
        for seed in range(10):
            chance = random.Random(seed)
            books = BOOKS
            for part in [MEMBER, RECORD, CATCH, RESULT, CUP]:
                rows = list(books[part])
                chance.shuffle(rows)
                books = with_part(part, rows, books)
            self.judges(books, None)


class Records(Case):
    def test_none_at_all(self):
        for at, game in enumerate(AT):
            record = BOOKS[RECORD][at][0]
            letter = ("letter", game, 4, 1, 0, 0, 0, UP, 0, 0)
            for parts in [{"clock": (5, *record[2][1:])}, {"clock": (record[2][0], 0, *record[2][2:])},
                          {"entries": (("open", -1),)}, {"entries": (*record[3], ("fall", 5, -1))},
                          {"entries": (*record[3], ("deed", 5, letter))}, {"entries": (("open", True),)}]:
                self.judges(with_record(game, **parts), ("record", game, 0))
            self.judges(with_record(game, game="Nim"), ("record", "Nim", 0))
            self.judges(with_record(game, game="abcdefghi"), ("record", "abcdefghi", 0))

    def test_its_game_stood_ahead(self):
        for game in AT:
            row = BOOKS[RECORD][AT[game]]
            self.judges(with_row(RECORD, AT[game], row, row), ("record", game, 0))
        last = len(AT) - 1
        row = BOOKS[RECORD][AT["begun"]]
        self.judges(with_row(RECORD, last, BOOKS[RECORD][last], (row[0], row[1], 5)), ("record", "begun", 0))

    def test_names(self):
        for names in [("ada",), (), ("ada", "bob", "cyd"), ("ada", "ada"), ("bob", "zoe"), ("Ada", "bob"),
                      ("ada", "take"), ("ada", "bob", "ada"), ("ada", "ada", "bob")]:
            self.judges(with_record("mover", names=names), ("record", "mover", 0))
        for names in [("cyd", "ada"), ("cyd", "ada", "bob", "dan"), ("cyd", "ada", "cyd"), ("cyd", "ada", "zoe")]:
            self.judges(with_record("given", names=names), ("record", "given", 0))

    def test_a_member_that_lacks(self):
        for name, game in [("eve", "begun"), ("cyd", "given")]:
            members = [row for row in BOOKS[MEMBER] if row[0] != name]
            self.judges(with_part(MEMBER, members), ("record", game, 0))

    def test_flaws_with_their_keys(self):
        for game, number in [("mover", 2), ("given", 2), ("two", 2), ("begun", 2)]:
            entries = entries_of(game)
            for entry in [(*entries[1][:2], (*entries[1][2][:9], 5)),
                          (*entries[1][:2], (*entries[1][2][:6], 5, *entries[1][2][7:])),
                          ("void" if entries[1][0] == "deed" else "deed", *entries[1][1:])]:
                self.judges(with_record(game, entries=(entries[0], entry, *entries[2:])), ("record", game, number))
        # By each other's keys the first letter isn't sealed; a key that is none seals nothing.
        for key in ["otherkey", "No key", ""]:
            for name, flaw in [("ada", ("record", "given", 3)), ("bob", ("record", "mover", 3)),
                               ("cyd", ("record", "given", 2)), ("dan", ("record", "begun", 2))]:
                at = sorted(MEMBERS).index(name)
                self.judges(with_row(MEMBER, at, (name, key)), flaw)
        # Eve told nothing.
        self.judges(with_row(MEMBER, 4, ("eve", "otherkey")), None)

    def test_of_the_names_the_other_way_round(self):
        self.judges(with_record("mover", names=("bob", "ada")), ("record", "mover", 2))

    def test_by_each_entry(self):
        for game in AT:
            entries = entries_of(game)
            for at in range(1, len(entries)):
                cut = (*entries[:at], ("open", 999), *entries[at + 1:])
                self.judges(with_record(game, entries=cut), ("record", game, at + 1))
            # A game that would begin later than what is behind it.
            late = (("open", 999), *entries[1:])
            self.judges(with_record(game, entries=late), ("record", game, 2) if len(entries) > 1 else None)

    def test_the_day(self):
        for game in AT:
            day = BOOKS[RECORD][AT[game]][2]
            self.judges(with_record(game, day=None if day is not None else 3), ("record", game, 0))
        # Where the end is left out the game isn't over, and its day can't be.
        for game in ["mover", "given", "late", "two"]:
            self.judges(with_record(game, entries=entries_of(game)[:-1]), ("record", game, 0))

    def test_the_order(self):
        # Names ahead of flaws, flaws ahead of days, within a record.
        entries = (entries_of("mover")[0], ("fall", 5, 1))
        self.judges(with_record("mover", entries=entries, names=("ada", "ada")), ("record", "mover", 0))
        self.judges(with_record("mover", entries=entries, day=None), ("record", "mover", 2))
        # Record by record, as they stand.
        books = with_record("two", entries=(), books=with_record("given", day=None))
        self.judges(books, ("record", "given", 0))
        self.judges(with_part(RECORD, reversed(books[RECORD]), books), ("record", "two", 0))

    def test_of_a_record_without_entries(self):
        row = (("new", RULES["long"], CLOCK, ()), ("ada", "bob"), None)
        self.judges(with_part(RECORD, [*BOOKS[RECORD], row]), None)
        self.judges(with_part(RECORD, [*BOOKS[RECORD], (*row[:2], 3)]), ("record", "new", 0))


class Catches(Case):
    def given(self):
        return BOOKS[CATCH][0]

    def letters(self, name, *deeds, game="given", **parts):
        return [sent(HOUSE, game, name, deed, **{"place": 4, **parts}) for deed in deeds]

    def test_other_two_letters_of_a_game_that_was_over(self):
        game, one, other = self.given()
        self.judges(with_row(CATCH, 0, (game, other, one)), None)
        self.judges(with_row(CATCH, 0, (game, *self.letters("bob", UP, EVEN, place=9))), None)
        books = with_row(CATCH, 0, (game, *self.letters("ada", UP, EVEN)))
        self.judges(books, ("result", game))

    def test_no_two_letters(self):
        game, one, other = self.given()
        for pair in [(one, one), (one, None), (None, None), (one, "x"), (one, list(other)), (one, other[:9]),
                     (one, self.letters("bob", GIVE, place=5)[0]), (one, self.letters("ada", GIVE)[0]),
                     self.letters("bob", EVEN, GIVE, game="mover"), self.letters("bob", EVEN, GIVE, game="late"),
                     self.letters("cyd", EVEN, GIVE, game="xba"),
                     (one, self.letters("bob", GIVE, key="wrong")[0]), (self.letters("bob", GIVE, key="wrong")[0], one),
                     self.letters("bob", EVEN, GIVE, key=MEMBERS["ada"])]:
            self.judges(with_row(CATCH, 0, (game, *pair)), ("catch", game))

    def test_of_no_player_of_it(self):
        game = "mover"
        for player in [2, 3]:
            pair = self.letters("bob", EVEN, GIVE, game=game)
            pair = [(*letter[:2], player, *letter[3:]) for letter in pair]
            self.judges(with_part(CATCH, [*BOOKS[CATCH], (game, *pair)]), ("catch", game))

    def test_no_record_of_it(self):
        pair = [(letter[0], "nosuch", *letter[2:]) for letter in self.given()[1:]]
        self.judges(with_part(CATCH, [*BOOKS[CATCH], ("nosuch", *pair)]), ("catch", "nosuch"))

    def test_a_second_one_of_it(self):
        for at, row in enumerate(BOOKS[CATCH]):
            self.judges(with_row(CATCH, at, row, row), ("catch", row[0]))
        more = self.letters("bob", UP, EVEN, place=9)
        self.judges(with_part(CATCH, [*BOOKS[CATCH], ("given", *more)]), ("catch", "given"))

    def test_others_than_in_its_entry_two(self):
        game, one, other = BOOKS[CATCH][1]
        self.assertEqual((game, entries_of("two")[-1][2:]), ("two", (one, other)))
        for pair in [(other, one), self.letters("ada", EVEN, GIVE, game="two", place=1),
                     self.letters("ada", EVEN, GIVE, game="two"), self.letters("dan", EVEN, GIVE, game="two")]:
            self.judges(with_row(CATCH, 1, (game, *pair)), ("catch", "two"))

    def test_of_a_game_that_is_not_over(self):
        pair = self.letters("dan", EVEN, GIVE, game="begun")
        self.judges(with_part(CATCH, [*BOOKS[CATCH], ("begun", *pair)]), ("catch", "begun"))

    def test_an_entry_two_without_a_catch(self):
        self.judges(with_row(CATCH, 1), ("catch", "two"))
        self.judges(with_part(CATCH, []), ("catch", "two"))

    def test_a_catch_of_a_game_that_was_over_left_out(self):
        # Nothing tells of it then but the result that was mended.
        self.judges(with_row(CATCH, 0), ("result", "given"))

    def test_the_order(self):
        # Catch by catch as they stand, and only then records without one.
        game, one, _ = self.given()
        bad = (game, one, one)
        self.judges(with_part(CATCH, [bad]), ("catch", "given"))
        two = (BOOKS[CATCH][1][0], *BOOKS[CATCH][1][:0:-1])
        self.judges(with_part(CATCH, [bad, two]), ("catch", "given"))
        self.judges(with_part(CATCH, [two, bad]), ("catch", "two"))


class Results(Case):
    def result(self, game):
        return [at for at, row in enumerate(BOOKS[RESULT]) if row[0] == game][0]

    def test_not_just_one(self):
        for at, row in enumerate(BOOKS[RESULT]):
            self.judges(with_row(RESULT, at), ("result", row[0]))
            self.judges(with_row(RESULT, at, row, row), ("result", row[0]))
            self.judges(with_row(RESULT, at, row, (*row[:3], (4, 4))), ("result", row[0]))

    def test_of_what_is_not_over_or_has_no_record(self):
        for game in ["begun", "xba", "nosuch", "aaa"]:
            row = (game, 3, ("dan", "eve"), (2, 0))
            self.judges(with_part(RESULT, [*BOOKS[RESULT], row]), ("result", game))

    def test_names_day_and_points(self):
        for at, (game, day, names, points) in enumerate(BOOKS[RESULT]):
            for row in [(game, day + 1, names, points), (game, 0 if day else 1, names, points),
                        (game, day, names[::-1], points), (game, day, (*names[:-1], "zoe"), points),
                        (game, day, names, (1,) * len(names)), (game, day, names, (*points, 0)),
                        (game, day, names, (points[-1], *points[:-1])), (game, day, names, points[1:])]:
                self.judges(with_row(RESULT, at, row), ("result", game))

    def test_by_a_catch(self):
        # By its record cyd has given up, by the catch it is bob who has 0.
        at = self.result("given")
        self.assertEqual(BOOKS[RESULT][at], ("given", 1, ("cyd", "ada", "bob"), (2, 2, 0)))
        self.judges(with_row(RESULT, at, ("given", 1, ("cyd", "ada", "bob"), (0, 2, 2))), ("result", "given"))

    def test_a_day_that_is_none(self):
        # What is no result can't be just the one that is due.
        for day in [401, 10 ** 39, -1]:
            at = self.result("mover")
            row = BOOKS[RESULT][at]
            books = with_row(RESULT, at, (row[0], day, *row[2:]), books=with_record("mover", day=day))
            self.judges(books, ("result", "mover"))

    def test_by_games_rising(self):
        books = with_part(RESULT, reversed([row for row in BOOKS[RESULT] if row[0] not in ("two", "late", "mover")]))
        self.judges(books, ("result", "late"))
        extra = [("zoo", 0, ("dan", "eve"), (2, 0)), ("aaa", 0, ("dan", "eve"), (2, 0))]
        self.judges(with_part(RESULT, [*extra, *books[RESULT]]), ("result", "aaa"))


class Cups(Case):
    def lap(self, *laps, names=("ada", "bob", "cyd"), asked=3):
        return with_part(CUP, [("x", names, asked, laps)])

    def test_beyond_those_asked(self):
        one, two = BOOKS[CUP][0][3]
        for asked, lap in [(1, 2), (0, 1), (-5, 1)]:
            self.judges(self.lap(one, two, asked=asked), ("cup", "x", lap))
        for asked in [2, 9, 77]:
            self.judges(self.lap(one, two, asked=asked), None)
        self.judges(self.lap(asked=0), None)

    def test_each_name_just_once(self):
        one, two = BOOKS[CUP][0][3]
        for lap in [((("ada", "bob"),), None), ((), "cyd"), ((("ada", "bob"),), "ada"), ((("ada", "ada"),), "cyd"),
                    ((("ada", "bob"), ("ada", "bob")), "cyd"), ((("ada", "bob"), ("cyd", "ada")), None),
                    ((("ada", "bob"),), "dan"), ((("ada", "dan"),), "cyd"), ((), None),
                    ((("ada", "bob"), ("cyd", "dan")), None), ((("ada", "bob"), ("cyd", "cyd")), None)]:
            self.judges(self.lap(lap), ("cup", "x", 1))
            self.judges(self.lap(one, lap), ("cup", "x", 2))
        for names in [("ada", "bob", "cyd", "dan"), ("ada", "bob"), ("ada", "bob", "cyd", "dan", "eve")]:
            self.judges(self.lap(one, two, names=names), ("cup", "x", 1))
        self.judges(self.lap(one, two, names=("cyd", "bob", "ada")), None)

    def test_two_meet_again_and_one_sits_out_again(self):
        # Books of a house that had games to any pairing.
        games = [("xaa", ("ada", "bob")), ("xba", ("bob", "ada")), ("xca", ("cyd", "ada")), ("xda", ("cyd", "bob"))]
        books = books_of(house_of(deeds=[("open", game, "long", names, CLOCK) for game, names in games]))

        def judges(laps, flaw):
            self.judges(with_part(CUP, [("x", ("ada", "bob", "cyd"), 9, tuple(laps))], books), flaw)

        judges([((("ada", "bob"),), "cyd"), ((("bob", "ada"),), "cyd")], ("cup", "x", 2))
        for more in [[("xba", ("bob", "ada")), ("xbb", ("dan", "cyd"))], [("xba", ("ada", "bob")), ("xbb", ("cyd", "dan"))],
                     [("xba", ("ada", "cyd")), ("xbb", ("bob", "dan")), ("xca", ("ada", "bob")), ("xcb", ("cyd", "dan"))]]:
            games = [("xaa", ("ada", "bob")), ("xab", ("cyd", "dan")), *more]
            books = books_of(house_of(deeds=[("open", game, "long", names, CLOCK) for game, names in games]))
            laps = [(tuple([names for game, names in games if game[1] == lap]), None) for lap in "abc"[:len(games) // 2]]
            self.judges(with_part(CUP, [("x", ("ada", "bob", "cyd", "dan"), 9, tuple(laps))], books),
                        ("cup", "x", len(laps)))
        four = [("xaa", ("ada", "bob")), ("xab", ("cyd", "dan")), ("xba", ("dan", "ada")), ("xbb", ("bob", "cyd")),
                ("xca", ("bob", "ada")), ("xcb", ("dan", "cyd"))]
        books = books_of(house_of(deeds=[("open", game, "long", names, CLOCK) for game, names in four]))
        laps = [(tuple([names for game, names in four if game[1] == lap]), None) for lap in "abc"]
        cup = ("x", ("ada", "bob", "cyd", "dan"), 9, tuple(laps))
        self.judges(with_part(CUP, [cup], books), ("cup", "x", 3))
        self.judges(with_part(CUP, [(*cup[:3], tuple(laps[:2]))], books), None)
        # One sits out again, though no two have met.
        five = [("xaa", ("ada", "bob")), ("xab", ("cyd", "dan")), ("xba", ("ada", "cyd")), ("xbb", ("bob", "dan"))]
        books = books_of(house_of(deeds=[("open", game, "long", names, CLOCK) for game, names in five]))
        laps = tuple([(tuple([names for game, names in five if game[1] == lap]), "eve") for lap in "ab"])
        names = ("ada", "bob", "cyd", "dan", "eve")
        self.judges(with_part(CUP, [("x", names, 9, laps)], books), ("cup", "x", 2))
        self.judges(with_part(CUP, [("x", names, 9, laps[:1])], books), None)

    def test_a_game_without_its_record(self):
        one, two = BOOKS[CUP][0][3]
        for laps, lap in [([((("bob", "ada"),), "cyd")], 1), ([one, ((("ada", "cyd"),), "bob")], 2), ([two, one], 1),
                          ([two], 1), ([one, two, ((("bob", "cyd"),), "ada")], 3)]:
            self.judges(self.lap(*laps), ("cup", "x", lap))
        for cup in ["y", "xa", "X", ""]:
            self.judges(with_part(CUP, [(cup, ("ada", "bob", "cyd"), 3, (one, two))]), ("cup", cup, 1))
        without = [row for row in BOOKS[RECORD] if row[0][0] != "xba"]
        self.judges(with_part(RECORD, without), ("cup", "x", 2))

    def test_more_rounds_and_games_than_have_names(self):
        names = tuple([letter + "name" for letter in "abcdefghijkl"])
        pairs = tuple([(names[at], names[at + 1]) for at in range(0, 12, 2)])
        house = house_of(deeds=[("member", name, "key") for name in names])
        for k, pair in enumerate(pairs[:5]):
            house.do(("open", "xa" + "abcde"[k], "long", pair, CLOCK))
        self.judges(with_part(CUP, [("x", names, 9, ((pairs, None),))], books_of(house)), ("cup", "x", 1))

        # Eleven can meet for eleven rounds, but there are letters for nine.
        laps = []
        for lap in range(11):
            turned = [names[(at + lap) % 11] for at in range(11)]
            laps.append((tuple([(turned[at], turned[-at]) for at in range(1, 6)]), turned[0]))
        house = house_of(deeds=[("member", name, "key") for name in names])
        for lap in range(9):
            for k, pair in enumerate(laps[lap][0]):
                house.do(("open", "x" + "abcdefghi"[lap] + "abcde"[k], "long", pair, CLOCK))
        for many, flaw in [(9, None), (10, ("cup", "x", 10)), (11, ("cup", "x", 10))]:
            self.judges(with_part(CUP, [("x", names[:11], 99, tuple(laps[:many]))], books_of(house)), flaw)

    def test_cup_by_cup(self):
        good = BOOKS[CUP][0]
        bad, worse = ("y", *good[1:]), ("a", *good[1:])
        self.judges(with_part(CUP, [good, bad, worse]), ("cup", "y", 1))
        self.judges(with_part(CUP, [worse, good, bad]), ("cup", "a", 1))


class Kinds(Case):
    def test_the_order_of_kinds(self):
        cup = with_part(CUP, [("y", *BOOKS[CUP][0][1:])])
        result = with_part(RESULT, BOOKS[RESULT][1:], cup)
        catch = with_part(CATCH, BOOKS[CATCH][:1], result)
        record = with_record("xba", day=3, books=catch)
        self.judges(cup, ("cup", "y", 1))
        self.judges(result, ("result", BOOKS[RESULT][0][0]))
        self.judges(catch, ("catch", "two"))
        self.judges(record, ("record", "xba", 0))

    def test_a_digest(self):
        by = Digest()
        self.assertIsNone(judged(BOOKS, by))
        asked = len(by.asked)
        for at in random.Random(1).sample(range(1, asked + 1), 12):
            by = Digest()
            by.fail_at(at)
            with self.assertRaises(DigestFails):
                judged(BOOKS, by)
        self.assertEqual(judged(BOOKS, lambda text: 5), ("record", "begun", 2))


class Leads(Case):
    def test_against_the_records(self):
        checked = 0
        for seed in range(200, 230):
            house = chance_house(random.Random(seed))
            for name in house.members():
                told = leads(house, name, 400)
                days = sorted({result[1] for result in house.book().of(name)})
                self.assertEqual([row[0] for row in told], days)
                for day, ahead, behind, rows in told:
                    paper = because(house.book(), name, day, ladder=house.ladder())
                    self.assertEqual((ahead, behind, [row[:4] for row in rows]), (paper[0], paper[4], paper[2]))
                    for row in rows:
                        entries = house.table(row[0]).entries()
                        player = house.names_of(row[0]).index(name)
                        own = [at + 1 for at in range(len(entries))
                               if entries[at][0] in ("deed", "void") and entries[at][2][2] == player]
                        self.assertEqual(row[4], tuple(own))
                        checked += len(own)
                self.assertIs(sums(told, house.ladder()), True)
                self.assertIs(sums(tuple(told), house.ladder()), True)
                for day in [0, 1, 2, 5]:
                    self.assertEqual(leads(house, name, day), [row for row in told if row[0] <= day])
                if told:
                    self.assertEqual(told[-1][2], rating(house.book(), name, 400, ladder=house.ladder()))
        self.assertGreater(checked, 100)

    def test_by_hand(self):
        self.assertEqual(leads(HOUSE, "bob", 1), [
            (1, 1000, 940, [("given", "cyd", (0, 1), (1, 2), ()), ("given", "ada", (0, 1), (1, 2), ()),
                            ("mover", "ada", (0, 1), (1, 2), (3, 4))]),
        ])
        self.assertEqual(leads(house=HOUSE, name="dan", day=400)[0], (1, 1000, 1020, [("two", "ada", (1, 1), (1, 2), (3,))]))
        self.assertEqual(leads(HOUSE, "eve", 1), [])

    def test_no_name_and_no_day(self):
        for thing in [*NO_NUMBERS, 0, "zoe", "Ada", "nim", ["ada"]]:
            for day in [3, -1]:
                with self.assertRaises(NoName, msg=repr(thing)) as caught:
                    leads(HOUSE, thing, day)
                self.assertEqual(repr(caught.exception.name), repr(thing))
        for thing in [*NO_NUMBERS, -1, 401, 10 ** 39]:
            with self.assertRaises(NoDay, msg=repr(thing)) as caught:
                leads(HOUSE, "ada", thing)
            self.assertEqual(repr(caught.exception.day), repr(thing))

    def test_what_is_told_is_the_askers_own(self):
        ahead = house_told(HOUSE)
        told = leads(HOUSE, "ada", 9)
        kept = copy.deepcopy(told)
        told[0][3].clear()
        told.clear()
        self.assertEqual(leads(HOUSE, "ada", 9), kept)
        self.assertEqual(house_told(HOUSE), ahead)


class Sums(Case):
    """Rows by hand, with a ladder of first 1000, wide 400, least 100, and k of 40 up to two games, then 20."""

    LADDER = Ladder(steps=((2, 40), (None, 20)))
    ROWS = [
        (1, 1000, 1019, [("a", "bob", (1, 1), (1, 2), (2, 5)), ("b", "bob", (1, 2), (21, 40), ())]),
        (400, 1019, 1029, [("c", "bob", (1, 1), (1, 2), (3,)), ("c", "cyd", (0, 1), (1, 1), (3,)),
                           ("c", "dan", (1, 1), (0, 1), (3,))]),
    ]

    def sums(self, rows, expected, ladder=LADDER):
        ahead = repr(rows)
        self.assertIs(sums(rows, ladder), expected, ahead)
        self.assertEqual(repr(rows), ahead)

    def with_row(self, at, part, thing):
        rows = copy.deepcopy(self.ROWS)
        rows[at] = (*rows[at][:part], thing, *rows[at][part + 1:])
        return rows

    def with_part(self, at, k, part, thing):
        rows = copy.deepcopy(self.ROWS)
        row = rows[at][3][k]
        rows[at][3][k] = (*row[:part], thing, *row[part + 1:])
        return rows

    def test_right_ones(self):
        self.sums(self.ROWS, True)
        self.sums(tuple(self.ROWS), True)
        self.sums([(day, ahead, behind, tuple(rows)) for day, ahead, behind, rows in self.ROWS], True)
        self.sums(self.ROWS[:1], True)
        self.sums([], True)
        self.sums((), True)
        self.assertIs(sums(rows=self.ROWS, ladder=self.LADDER), True)

    def test_no_ladder(self):
        for thing in [*OTHERS, 0, self.LADDER.told(), Book()]:
            for rows in [self.ROWS, None]:
                with self.assertRaises(NoLadder, msg=repr(thing)):
                    sums(rows, thing)

    def test_anything(self):
        for thing in [None, True, False, 0, 5, "", "a", {}, {0: self.ROWS[0]}, *[[part] for part in [*OTHERS, 0, 5]],
                      self.ROWS[0], [list(self.ROWS[0])], [self.ROWS[0][:3]], [(*self.ROWS[0], 0)],
                      [self.ROWS[0], None]]:
            self.sums(thing, False)

    def test_days(self):
        for thing in [*NO_NUMBERS, -1, 400, 401, 10 ** 39]:
            self.sums(self.with_row(0, 0, thing), False)
        for thing in [*NO_NUMBERS, 0, 1, 401, 10 ** 39]:
            self.sums(self.with_row(1, 0, thing), False)
        for at, day in [(0, 0), (0, 399), (1, 2)]:
            self.sums(self.with_row(at, 0, day), True)

    def test_ahead_and_behind(self):
        for at in [0, 1]:
            for part in [1, 2]:
                right = self.ROWS[at][part]
                for thing in [*NO_NUMBERS, right - 1, right + 1, -right, 10 ** 39]:
                    self.sums(self.with_row(at, part, thing), False)
        self.sums(self.ROWS[1:], False)
        self.sums(self.ROWS, False, Ladder())
        self.sums(self.ROWS, False, Ladder(first=1001, steps=((2, 40), (None, 20))))
        self.sums(self.ROWS, True, Ladder(wide=7, least=1000, steps=((2, 40), (None, 20))))

    def test_never_below_least(self):
        rows = [(0, 100, 100, [("a", "bob", (0, 1), (1, 2), ())])]
        self.sums(rows, True, Ladder(first=100))
        self.sums(rows, False, Ladder(first=100, least=0))
        self.sums([(0, 100, 80, rows[0][3])], True, Ladder(first=100, least=0))
        self.sums([(0, 100, 80, rows[0][3])], False, Ladder(first=100))
        # Truths are no numbers, also where one would be equal to the right one.
        self.sums([(0, 1, 0, rows[0][3])], True, Ladder(first=1, least=0))
        self.sums([(0, 1, False, rows[0][3])], False, Ladder(first=1, least=0))
        self.sums([(0, True, 0, rows[0][3])], False, Ladder(first=1, least=0))
        self.sums([(False, 1, 0, rows[0][3])], False, Ladder(first=1, least=0))

    def test_rows(self):
        for thing in [*OTHERS, 0, [None], [self.ROWS[0][3][0], 5], self.ROWS[0][3][0], [list(self.ROWS[0][3][0])],
                      [self.ROWS[0][3][0][:4]], [(*self.ROWS[0][3][0], ())]]:
            self.sums(self.with_row(0, 3, thing), False)

    def test_rows_whose_sum_is_right(self):
        right = ("a", "bob", (1, 1), (1, 2), ())
        for row, behind, expected in [
            (right, 1020, True), ((*right, ()), 1020, False), (right[:4], 1020, False), (list(right), 1020, False),
            ((*right[:3], (3, 2), ()), 980, False), ((*right[:3], (2, 1), ()), 960, False),
            ((*right[:3], (-1, 2), ()), 1060, False), ((*right[:3], (-1, 1), ()), 1080, False),
            ((*right[:3], (2, 4), ()), 1020, False), ((*right[:3], (1, 1), ()), 1000, True),
            ((*right[:3], (0, 1), ()), 1040, True), ((*right[:3], (0, 5), ()), 1040, False),
            ((*right[:2], (2, 2), *right[3:]), 1020, False), ((*right[:2], (1, 3), (1, 3), ()), 1000, False),
            ((*right[:2], (3, 2), *right[3:]), 1040, False), ((*right[:2], (True, 1), *right[3:]), 1020, False),
            ((*right[:3], (True, 2), ()), 1020, False),
        ]:
            self.sums([(0, 1000, behind, [row])], expected)

    def test_games_rising_through_a_day(self):
        for at, k, game in [(0, 0, "b"), (0, 0, "c"), (0, 1, "a"), (1, 0, "d"), (1, 1, "b"), (1, 2, "a")]:
            self.sums(self.with_part(at, k, 0, game), False)
        self.sums(self.with_part(0, 1, 0, "z"), True)
        for thing in [*NO_NUMBERS, 0, "Nim", "abcdefghi"]:
            if thing != "a":
                self.sums(self.with_part(0, 0, 0, thing), False)
        row = ("a", "bob", (1, 2), (1, 2), ())
        self.sums([(0, 1000, 1000, [row, ("b", *row[1:]), row])], False)

    def test_one_to_three_others_unlike(self):
        names = ["bob", "cyd", "dan", "eve"]
        rows = [("a", name, (1, 2), (1, 2), ()) for name in names]
        for many, expected in [(1, True), (2, True), (3, True), (4, False)]:
            self.sums([(0, 1000, 1000, rows[:many])], expected)
        self.sums([(0, 1000, 1000, [rows[0], rows[0]])], False)
        self.sums([(0, 1000, 1000, [rows[0], rows[1], rows[0]])], False)
        self.sums([(0, 1000, 1000, [rows[0], ("b", *rows[0][1:])])], True)
        self.sums([(0, 1000, 1000, [*rows[:3], ("b", *rows[0][1:])])], True)
        for thing in [*NO_NUMBERS, 0, "Bob", "abcdefghi"]:
            if thing != "a":
                self.sums(self.with_part(0, 0, 1, thing), False)

    def test_shares(self):
        for thing in [*OTHERS, 0, [1, 1], (1,), (1, 1, 1), (2, 2), (2, 4), (0, 2), (1, 3), (2, 1), (-1, 1), (1, 0),
                      (True, 1), (1, True), (None, 1), (1, 2), (0, 1)]:
            self.sums(self.with_part(0, 0, 2, thing), False)

    def test_awaited(self):
        for thing in [*OTHERS, 0, [1, 2], (1,), (1, 2, 1), (2, 4), (0, 2), (0, 0), (3, 2), (2, 1), (-1, 2), (1, -2),
                      (2, 2), (1, 0), (1, True), (False, 1), (5, 8), (1, 4)]:
            self.sums(self.with_part(0, 0, 3, thing), False)
        # A little more or less comes to the same whole number.
        self.sums(self.with_part(0, 0, 3, (51, 100)), True)
        # 20 - 39/40 is 19 and 1/40, from 18 and a half on it is rounded to that.
        below = [(0, 1000, 1019, [("a", "bob", (1, 1), (43, 80), ())])]
        self.sums(below, True)
        self.sums([(0, 1000, 1018, below[0][3])], False)
        above = [(0, 1000, 1019, [("a", "bob", (1, 1), (41, 80), ())])]
        self.sums(above, False)
        self.sums([(0, 1000, 1020, above[0][3])], True)
        # Minus a half is 0, minus one and a half is -1.
        self.sums([(0, 1000, 1000, [("a", "bob", (1, 2), (41, 80), ())])], True)
        self.sums([(0, 1000, 999, [("a", "bob", (1, 2), (43, 80), ())])], True)
        self.sums([(0, 1000, 998, [("a", "bob", (1, 2), (43, 80), ())])], False)

    def test_numbers(self):
        for thing in [None, True, 0, "", [], [2, 5], {}, (0,), (0, 5), (-1,), (5, 2), (2, 2), (True,), (1, True), ("2",),
                      (None,), ((2,),), (2, 5, 5), (10 ** 39, 2)]:
            self.sums(self.with_part(0, 0, 4, thing), False)
        for thing in [(), (1,), (1, 2, 3), (400,), (5, 10 ** 39)]:
            self.sums(self.with_part(0, 0, 4, thing), True)

    def test_its_games_counted_day_by_day(self):
        row = ("a", "bob", (1, 1), (1, 2), ())
        days = [(0, 1000, 1020, [row]), (1, 1020, 1060, [row, ("b", *row[1:])]), (2, 1060, 1070, [row]),
                (3, 1070, 1080, [row])]
        self.sums(days, True)
        self.sums([*days[:2], (2, 1060, 1080, [row])], False)
        # Three others in a game are one game.
        three = [("a", name, (1, 2), (1, 2), ()) for name in ["bob", "cyd", "dan"]]
        self.sums([(0, 1000, 1000, three), (1, 1000, 1020, [row]), (2, 1020, 1030, [row])], True)


if __name__ == "__main__":
    unittest.main()
