"""[81], [82]: ladders, and ratings by days."""

import copy
import random
import unittest
from fractions import Fraction

from makers import NO_NUMBERS, OTHERS
from playstead.books import Book
from playstead.errors import NoDay, NoLadder, NoName
from playstead.ladders import FIRST, LEAST, WIDE, Ladder, because, rating, ratings, ripple

PLAIN = ((10, 40), (None, 20))


def book_of(*results):
    book = Book()
    for result in results:
        book.tell(result)
    return book


def nearest(number):
    """To the nearest whole number, a half upwards."""
    return (number + Fraction(1, 2)).__floor__()


class Plainly:
    """The rule of [81] a second time, by fractions: ratings behind each day on which somebody plays."""

    def __init__(self, results, told):
        self.first, self.wide, self.steps, self.least = told
        self.ratings, self.days = {}, {}
        for day in sorted({result[1] for result in results}):
            self.go_on(day, results)

    def go_on(self, day, results):
        behind = {}
        for name in {name for result in results if result[1] == day for name in result[2]}:
            behind[name] = self.paper(name, day, results)
        self.days[day] = behind
        self.ratings = {**self.ratings, **{name: behind[name][4] for name in behind}}

    def paper(self, name, day, results):
        ahead = self.ratings.get(name, self.first)
        many = len([result for result in results if result[1] < day and name in result[2]])
        k = [k for games, k in self.steps if games is None or games > many][0]
        rows, whole = [], Fraction(0)
        for game, _, names, points in sorted([result for result in results if result[1] == day]):
            worth = dict(zip(names, points))
            for other in names:
                if name in worth and other != name:
                    share = Fraction((worth[name] > worth[other]) * 2 + (worth[name] == worth[other]), 2)
                    awaited = Fraction(1, 2) + Fraction(ahead - self.ratings.get(other, self.first), 2 * self.wide)
                    awaited = min(Fraction(1), max(Fraction(0), awaited))
                    whole += share - awaited
                    rows.append((game, other, share.as_integer_ratio(), awaited.as_integer_ratio()))
        gain = nearest(k * whole)
        return (ahead, k, rows, gain, max(self.least, ahead + gain))

    def rating(self, name, day):
        own = [self.days[one][name][4] for one in sorted(self.days) if one <= day and name in self.days[one]]
        return own[-1] if own else self.first


class Ladders(unittest.TestCase):
    def test_told(self):
        self.assertEqual((FIRST, WIDE, LEAST), (1000, 400, 100))
        self.assertEqual(Ladder().told(), (1000, 400, PLAIN, 100))
        told = (5, 7, ((1, 3), (2, 9), (30, 1), (None, 100)), 4)
        self.assertEqual(Ladder(first=5, wide=7, steps=told[2], least=4).told(), told)

    def test_the_bounds(self):
        for right in [{"first": 100}, {"first": 4000}, {"first": 0, "least": 0}, {"wide": 1}, {"wide": 1000},
                      {"least": 0}, {"least": 1000}, {"first": 4000, "least": 4000}, {"steps": ((None, 1),)},
                      {"steps": ((None, 100),)}, {"steps": ((1, 1), (None, 1))},
                      {"steps": ((10 ** 39, 1), (None, 1))}, {"steps": ((1, 1), (2, 1), (3, 1), (None, 1))}]:
            Ladder(**right)

    def test_no_ladder(self):
        wrong = [{"first": thing} for thing in [*NO_NUMBERS, -1, 4001, 99, 10 ** 39]]
        wrong += [{"wide": thing} for thing in [*NO_NUMBERS, 0, -1, 1001, 10 ** 39]]
        wrong += [{"least": thing} for thing in [*NO_NUMBERS, -1, 1001, 10 ** 39]]
        wrong += [{"first": 50, "least": 51}, {"first": 0}]
        steps = [*OTHERS, 0, list(PLAIN), ((10, 40),), ((None, 40), (None, 20)), ((10, 40), (20, 20)),
                 ((10, 40), (10, 30), (None, 20)), ((10, 40), (9, 30), (None, 20)), ((0, 40), (None, 20)),
                 ((-1, 40), (None, 20)), ((True, 40), (None, 20)), ((None, 0),), ((None, 101),), ((None, True),),
                 ((None, None),), ((None, -1),), ([None, 20],), ((None, 20, 1),), ((None,),), (None, 20),
                 ((10, 40), [None, 20]), (("10", 40), (None, 20)), ((10, 0), (None, 20)), ((False, 20),),
                 ((1, 1), (2, 1), (3, 1), (4, 1), (None, 1)), ((None, 20), (10, 40)), ((3, 1), (2, 1), (None, 1))]
        wrong += [{"steps": thing} for thing in steps]
        for parts in wrong:
            ahead = repr(parts)
            with self.assertRaises(NoLadder, msg=repr(parts)):
                Ladder(**parts)
            self.assertEqual(repr(parts), ahead)


class ByHand(unittest.TestCase):
    def rated(self, book, day, expected, **parts):
        ladder = Ladder(**parts)
        self.assertEqual(ratings(book, day, ladder=ladder), expected)
        self.assertEqual([rating(book, name, day, ladder=ladder) for name in expected], list(expected.values()))

    def test_one_game(self):
        for points, one, other in [((2, 0), 1020, 980), ((4, 3), 1020, 980), ((0, 1), 980, 1020), ((1, 1), 1000, 1000),
                                   ((0, 0), 1000, 1000)]:
            book = book_of(("nim", 3, ("bob", "ada"), points))
            self.rated(book, 3, {"ada": other, "bob": one})
            self.rated(book, 400, {"ada": other, "bob": one})
            self.rated(book, 2, {"ada": 1000, "bob": 1000})
            self.rated(book, 0, {"ada": 1000, "bob": 1000})

    def test_by_the_ratings_ahead_of_the_day(self):
        book = book_of(("a", 1, ("ada", "bob"), (2, 0)), ("b", 1, ("ada", "bob"), (2, 0)),
                       ("c", 2, ("ada", "bob"), (2, 0)), ("d", 2, ("bob", "cyd"), (2, 0)))
        self.rated(book, 1, {"ada": 1040, "bob": 960, "cyd": 1000})
        # Of ada against bob 1/2 + 80 / 800 is awaited, of bob against cyd 1/2 - 40 / 800.
        self.rated(book, 2, {"ada": 1056, "bob": 960 - 16 + 22, "cyd": 978})
        self.assertEqual(
            because(book, "bob", 2, ladder=Ladder()),
            (960, 40, [("c", "ada", (0, 1), (2, 5)), ("d", "cyd", (1, 1), (9, 20))], 6, 966),
        )

    def test_three_and_four_in_a_game(self):
        book = book_of(("a", 1, ("ada", "bob", "cyd"), (4, 1, 1)), ("b", 1, ("dan", "eve", "fay", "gil"), (3, 2, 2, 0)))
        self.rated(book, 1, {"ada": 1040, "bob": 980, "cyd": 980, "dan": 1060, "eve": 1000, "fay": 1000, "gil": 940})
        self.assertEqual(
            because(book, "eve", 1, ladder=Ladder()),
            (1000, 40, [("b", "dan", (0, 1), (1, 2)), ("b", "fay", (1, 2), (1, 2)), ("b", "gil", (1, 1), (1, 2))], 0,
             1000),
        )

    def test_differences_beyond_wide(self):
        book = book_of(("a", 1, ("ada", "bob"), (2, 0)), ("b", 2, ("ada", "bob"), (2, 0)),
                       ("c", 3, ("ada", "bob"), (0, 2)))
        parts = {"wide": 10, "steps": ((None, 40),)}
        self.rated(book, 1, {"ada": 1020, "bob": 980}, **parts)
        self.rated(book, 2, {"ada": 1020, "bob": 980}, **parts)
        self.rated(book, 3, {"ada": 980, "bob": 1020}, **parts)
        papers = [because(book, name, day, ladder=Ladder(**parts))[2:4] for name in ["ada", "bob"] for day in [2, 3]]
        self.assertEqual(papers, [([("b", "bob", (1, 1), (1, 1))], 0), ([("c", "bob", (0, 1), (1, 1))], -40),
                                  ([("b", "ada", (0, 1), (0, 1))], 0), ([("c", "ada", (1, 1), (0, 1))], 40)])
        # At wide itself it is 1 just so, and one less isn't.
        for wide, awaited in [(40, (1, 1)), (41, (81, 82)), (39, (1, 1))]:
            self.assertEqual(because(book, "ada", 2, ladder=Ladder(wide=wide, steps=((None, 40),)))[2][0][3], awaited)

    def test_a_half_upwards(self):
        # k of 1, a half each: 1/2 goes up to 1, -1/2 to 0; three halves to 2, -3/2 to -1.
        book = book_of(("a", 1, ("ada", "bob"), (2, 0)))
        self.rated(book, 1, {"ada": 1001, "bob": 1000}, steps=((None, 1),))
        self.rated(book, 1, {"ada": 1002, "bob": 999}, steps=((None, 3),))
        self.assertEqual([because(book, name, 1, ladder=Ladder(steps=((None, 1),)))[3] for name in ["ada", "bob"]],
                         [1, 0])
        # A third and two thirds: of ratings 1002 and 999, wide 9, awaited is 2/3.
        more = book_of(("a", 1, ("ada", "bob"), (2, 0)), ("b", 2, ("ada", "bob"), (2, 0)))
        paper = because(more, "ada", 2, ladder=Ladder(wide=9, steps=((1, 3), (None, 1))))
        self.assertEqual(paper, (1002, 1, [("b", "bob", (1, 1), (2, 3))], 0, 1002))
        paper = because(more, "ada", 2, ladder=Ladder(wide=9, steps=((1, 3), (None, 2))))
        self.assertEqual(paper, (1002, 2, [("b", "bob", (1, 1), (2, 3))], 1, 1003))
        paper = because(more, "bob", 2, ladder=Ladder(wide=9, steps=((1, 3), (None, 2))))
        self.assertEqual(paper, (999, 2, [("b", "ada", (0, 1), (1, 3))], -1, 998))

    def test_k_by_games_played_ahead_of_the_day(self):
        results = [(f"{day}{game}".translate(str.maketrans("0123456789", "abcdefghij")), day, ("ada", "bob"), (1, 1))
                   for day in range(4) for game in range(3)]
        book = book_of(*results, ("late", 9, ("ada", "cyd"), (1, 1)))
        ladder = Ladder(steps=((3, 9), (4, 8), (9, 7), (None, 6)))
        ks = [because(book, "ada", day, ladder=ladder)[1] for day in [0, 1, 2, 3, 9]]
        self.assertEqual(ks, [9, 8, 7, 6, 6])
        self.assertEqual(because(book, "cyd", 9, ladder=ladder)[1], 9)
        # One with four players is one game.
        four = book_of(("a", 0, ("ada", "bob", "cyd", "dan"), (1, 1, 1, 1)), ("b", 1, ("ada", "bob"), (1, 1)),
                       ("c", 2, ("ada", "bob"), (1, 1)))
        ladder = Ladder(steps=((2, 9), (None, 8)))
        self.assertEqual([because(four, "ada", day, ladder=ladder)[1] for day in [0, 1, 2]], [9, 9, 8])

    def test_never_below_least(self):
        book = book_of(("a", 1, ("ada", "bob"), (2, 0)), ("b", 2, ("ada", "bob"), (0, 2)))
        parts = {"first": 1000, "least": 990}
        self.rated(book, 1, {"ada": 1020, "bob": 990}, **parts)
        self.assertEqual(because(book, "bob", 1, ladder=Ladder(**parts))[3:], (-20, 990))
        self.assertEqual(because(book, "bob", 2, ladder=Ladder(**parts))[0], 990)
        self.rated(book, 1, {"ada": 20, "bob": 0}, first=0, least=0)

    def test_who_has_not_played(self):
        book = book_of(("a", 5, ("ada", "bob"), (2, 0)))
        for name in ["cyd", "nim", "ada"]:
            self.assertEqual(rating(book, name, 4, ladder=Ladder(first=7, least=7)), 7)
        self.assertEqual(rating(book=Book(), name="cyd", day=400, ladder=Ladder()), 1000)
        self.assertEqual(ratings(book=Book(), day=400, ladder=Ladder()), {})
        self.assertIsNone(because(book=book, name="cyd", day=5, ladder=Ladder()))
        for day in [0, 4, 6, 400]:
            self.assertIsNone(because(book, "ada", day, ladder=Ladder()))


class Ripples(unittest.TestCase):
    def base(self):
        return [("a", 1, ("ada", "bob"), (2, 0)), ("b", 3, ("bob", "cyd"), (2, 0)), ("c", 5, ("dan", "eve"), (2, 0)),
                ("d", 8, ("cyd", "dan"), (1, 1))]

    def test_mended(self):
        book, other = book_of(*self.base()), book_of(*self.base())
        other.mend("a", (0, 2))
        ada, bob = (1020, 980), (1001, 1039)
        self.assertEqual(ripple(book, other, 400, ladder=Ladder()), [
            ("ada", 1, *ada), ("bob", 1, 980, 1020),
            ("ada", 3, *ada), ("bob", 3, *bob), ("cyd", 3, 979, 981),
            ("ada", 5, *ada), ("bob", 5, *bob), ("cyd", 5, 979, 981),
            ("ada", 8, *ada), ("bob", 8, *bob), ("cyd", 8, 981, 983),
        ])
        self.same_as_plainly(book, other, 400, Ladder())

    def same_as_plainly(self, book, other, day, ladder):
        days = [one for one in sorted({*book.days(), *other.days()}) if one <= day]
        names = sorted({*book.names(), *other.names()})
        one, two = Plainly(book.results(), ladder.told()), Plainly(other.results(), ladder.told())
        expected = [(name, at, one.rating(name, at), two.rating(name, at)) for at in days for name in names]
        self.assertEqual(ripple(book, other, day, ladder=ladder), [row for row in expected if row[2] != row[3]])

    def test_struck_told_late_and_mended(self):
        for seed in range(60):
            chance = random.Random(seed)
            results = chance_results(chance)
            book = book_of(*results)
            other = book.twin()
            for _ in range(chance.randint(0, 2)):
                if len(other) > 0:
                    result = chance.choice(other.results())
                    if chance.random() < 0.5:
                        other.strike(result[0])
                    else:
                        other.mend(result[0], tuple([chance.randint(0, 4) for _ in result[2]]))
            if chance.random() < 0.5:
                other.tell(("zzz", chance.randint(0, 12), ("ada", "zoe"), (2, 0)))
            day = chance.choice([0, 3, 6, 12, 400])
            self.same_as_plainly(book, other, day, chance_ladder(chance))
            self.same_as_plainly(other, book, day, chance_ladder(chance))

    def test_by_day_then_name(self):
        book, other = book_of(*self.base()), book_of(*self.base())
        other.strike("a")
        self.assertEqual(ripple(book=book, other=other, day=3, ladder=Ladder()),
                         [("ada", 1, 1020, 1000), ("bob", 1, 980, 1000), ("ada", 3, 1020, 1000),
                          ("bob", 3, 1001, 1020), ("cyd", 3, 979, 980)])
        self.assertEqual(ripple(book, other, 2, ladder=Ladder()), [("ada", 1, 1020, 1000), ("bob", 1, 980, 1000)])
        self.assertEqual(ripple(book, other, 0, ladder=Ladder()), [])
        self.assertEqual(ripple(book, book, 400, ladder=Ladder()), [])
        self.assertEqual(ripple(Book(), Book(), 400, ladder=Ladder()), [])
        # A day on which somebody plays in one of both alone, and a name of the other alone.
        more = book_of(*self.base(), ("e", 2, ("zoe", "ada"), (2, 0)))
        rows = ripple(book, more, 3, ladder=Ladder())
        self.assertEqual([row[:2] for row in rows], [("ada", 2), ("zoe", 2), ("ada", 3), ("zoe", 3)])
        self.assertEqual(rows[1], ("zoe", 2, 1000, 1021))

    def test_just_what_hangs_on_it(self):
        # [2] (e): who never meets anyone that hangs on a game that is struck, keeps its rating.
        book, other = book_of(*self.base()), book_of(*self.base())
        other.strike("c")
        names = {row[0] for row in ripple(book, other, 400, ladder=Ladder())}
        self.assertEqual(names, {"cyd", "dan", "eve"})


def chance_results(chance):
    names = ["ada", "bob", "cyd", "dan", "eve"]
    results = []
    for at in range(chance.randint(0, 20)):
        many = chance.randint(2, 4)
        results.append((chr(97 + at) * 2, chance.randint(0, 9), tuple(chance.sample(names, many)),
                        tuple([chance.randint(0, 2) for _ in range(many)])))
    return results


def chance_ladder(chance):
    games = sorted(chance.sample(range(1, 12), chance.randint(0, 3)))
    first = chance.randint(0, 60)
    return Ladder(first=first, wide=chance.randint(1, 30), least=chance.randint(0, first),
                  steps=tuple([(one, chance.randint(1, 100)) for one in games] + [(None, chance.randint(1, 100))]))


class Any(unittest.TestCase):
    def test_against_the_rule_by_fractions(self):
        for seed in range(150):
            chance = random.Random(seed)
            results, ladder = chance_results(chance), chance_ladder(chance)
            plainly, book = Plainly(results, ladder.told()), book_of(*results)
            for day in range(11):
                expected = {name: plainly.rating(name, day) for name in book.names()}
                self.assertEqual(ratings(book, day, ladder=ladder), expected)
                self.assertEqual(list(ratings(book, day, ladder=ladder)), sorted(expected))
                for name in book.names():
                    self.assertEqual(rating(book, name, day, ladder=ladder), expected[name])
                    self.assertEqual(because(book, name, day, ladder=ladder), plainly.days.get(day, {}).get(name))

    def test_in_whatever_order_they_were_told(self):
        for seed in range(40):
            chance = random.Random(seed)
            results, ladder = chance_results(chance), chance_ladder(chance)
            straight, book = book_of(*results), Book()
            turned = list(results)
            chance.shuffle(turned)
            for result in turned:
                # Told with other points first and mended, or told, struck, and told once more.
                book.tell((*result[:3], tuple([0 for _ in result[3]])))
                if chance.random() < 0.3:
                    book.strike(result[0])
                    book.tell(result)
                book.mend(result[0], result[3])
            for day in [0, 4, 9]:
                self.assertEqual(ratings(book, day, ladder=ladder), ratings(straight, day, ladder=ladder))
            self.assertEqual(ripple(book, straight, 400, ladder=ladder), [])


class Refused(unittest.TestCase):
    def setUp(self):
        self.book = book_of(("a", 5, ("ada", "bob"), (2, 0)))
        self.ladder = Ladder()

    def no(self, kind, field, thing, do):
        with self.assertRaises(kind, msg=repr(thing)) as caught:
            do()
        if field is not None:
            self.assertEqual(repr(getattr(caught.exception, field)), repr(thing))

    def test_no_name(self):
        for thing in [*NO_NUMBERS, 0, "Ada", "abcdefghi"]:
            for do in [rating, because]:
                self.no(NoName, "name", thing, lambda: do(self.book, thing, 5, ladder=self.ladder))
                self.no(NoName, "name", thing, lambda: do(self.book, thing, -1, ladder=None))

    def test_no_day(self):
        for thing in [*NO_NUMBERS, -1, 401, 10 ** 39]:
            for ladder in [self.ladder, None]:
                for do in [
                    lambda: rating(self.book, "ada", thing, ladder=ladder),
                    lambda: because(self.book, "ada", thing, ladder=ladder),
                    lambda: ratings(self.book, thing, ladder=ladder),
                    lambda: ripple(self.book, self.book, thing, ladder=ladder),
                ]:
                    self.no(NoDay, "day", thing, do)

    def test_no_ladder(self):
        for thing in [*OTHERS, 0, self.ladder.told(), Book()]:
            for do in [
                lambda: rating(self.book, "ada", 400, ladder=thing), lambda: rating(self.book, "ada", 0, ladder=thing),
                lambda: because(self.book, "ada", 0, ladder=thing), lambda: ratings(self.book, 0, ladder=thing),
                lambda: ripple(self.book, self.book, 0, ladder=thing),
            ]:
                self.no(NoLadder, None, thing, do)


class Told(unittest.TestCase):
    def test_the_book_stays_and_what_is_told_is_the_askers_own(self):
        book = book_of(*chance_results(random.Random(5)))
        ladder, ahead = Ladder(), copy.deepcopy(book.results())
        for _ in range(2):
            told = ratings(book, 9, ladder=ladder)
            whole = copy.deepcopy(told)
            told["ada"] = None
            told.clear()
            self.assertEqual(ratings(book, 9, ladder=ladder), whole)
            for name in book.names():
                for day in book.days():
                    paper = because(book, name, day, ladder=ladder)
                    if paper is not None:
                        kept = copy.deepcopy(paper)
                        paper[2].clear()
                        self.assertEqual(because(book, name, day, ladder=ladder), kept)
            other = book.twin()
            other.strike(book.results()[0][0])
            ripple(book, other, 400, ladder=ladder).clear()
        self.assertEqual(book.results(), ahead)


if __name__ == "__main__":
    unittest.main()
