"""[2]: a whole house played through lines, its letters late, lost, doubled, turned about and forged."""

import random
import unittest

from guests import CLOCKS, MEMBERS, RULES, first_deeds, house_told, sent
from makers import digest
from playstead.books import Book
from playstead.clocks import Clock
from playstead.cups import Cup
from playstead.desk import deed_text, read_deed
from playstead.errors import NoPairing, NoWish, Over, SteadError, TooMany
from playstead.houses import House, led
from playstead.judging import books_of, judged, leads, sums
from playstead.ladders import Ladder, ratings, ripple
from playstead.letters import are_two, is_sealed, sealed
from playstead.records import Replay, flaw, read_record, record_of, record_text
from playstead.seats import Seat
from test_ladders import Plainly
from test_pairings import plainly

LADDER = Ladder(first=200, wide=80, steps=((3, 40), (None, 25)), least=120)
TOLDS = [
    (2, 70, "flat", 0, 0, 9), (2, 50, "plus", 3, 0, 5), (2, 60, "grace", 4, 0, 0), (2, 25, "parts", 6, 3, 2),
]


class Lines:
    """A house, a seat for each player of each game, and what is under way between them."""

    def __init__(self, chance):
        self.chance = chance
        self.house = House(digest, ladder=LADDER)
        self.house.all_done(first_deeds())
        self.seats, self.up, self.down, self.cups, self.clocks = {}, [], [], {}, {}
        self.words = {}

    def do(self, deed):
        told = self.house.do(deed)
        self.words[told if isinstance(told, str) else deed[0]] = True
        for game in self.house.games():
            table = self.house.table(game)
            self.clocks[game, len(table)] = table.clock()
        return told

    def open(self, game, rule, names):
        told = self.chance.choice(TOLDS) if len(names) == 2 else CLOCKS[len(names)]
        self.do(("open", game, rule, names, told))
        self.seat(game, rule, told)

    def seat(self, game, rule, told):
        _, base, kind, plus, parts, credit = told
        clock = Clock(told[0], base=base, kind=kind, plus=plus, parts=parts, credit=credit)
        self.seats[game] = [Seat(game, RULES[rule], clock, player, MEMBERS[name], digest)
                            for player, name in enumerate(self.house.names_of(game))]

    def cup(self, cup, names, rule):
        told = self.chance.choice(TOLDS)
        self.do(("cup", cup, names, 4, rule, told))
        self.cups[cup] = (Cup(cup, names, rounds=4), rule, told)

    def lap(self, cup):
        """The next round: by what is told now it is the best, or there is none."""
        own, rule, told = self.cups[cup]
        points = own.points_by(self.house.book().results())
        games = [game for lap in own.rounds() for game in lap[0]]
        sat = [out for _, out in own.rounds() if out is not None]
        firsts = {name: len([game for game in games if game[0] == name]) for name in points}
        best = plainly(list(points), points, games, sat, firsts)
        if best is None or len(own.rounds()) == 4:
            try:
                self.do(("round", cup))
            except (NoPairing, Over):
                return
            raise AssertionError(cup)
        names = self.do(("round", cup))
        if own.pair(points) != best or self.house.cup_rounds(cup)[-1] != best:
            raise AssertionError(best)
        for game in names:
            self.seat(game, rule, told)

    def some_seat(self):
        game = self.chance.choice(list(self.seats))
        seats = self.seats[game]
        turn = self.house.table(game).world().turn() or 0
        return self.chance.choice([seats[turn], seats[turn], self.chance.choice(seats)])

    def wish(self):
        seat = self.some_seat()
        allowed = seat.shown().allowed()
        deed = self.chance.choice([("move", name) for name in allowed] * 9 + [("even",), ("even",), ("give",)])
        try:
            seat.wish(deed, max(0, self.house.now() - self.chance.randint(0, 3)))
        except (NoWish, TooMany):
            pass
        self.up += seat.sends()

    def cheat(self):
        """A player sends two letters of one place, by turns at the house or handed in as a claim."""
        seat = self.some_seat()
        name = self.house.names_of(seat.game)[seat.player]
        place = self.chance.randint(1, self.house.table(seat.game).next_place(seat.player) + 1)
        pair = [sealed(MEMBERS[name], digest, game=seat.game, player=seat.player, place=place, deed=deed)
                for deed in [("even",), ("give",)]]
        if self.chance.random() < 0.5:
            self.do(("claim", *pair))
        else:
            self.up += pair

    def odd(self):
        """A player sends what it can't do, or what isn't behind its letter ahead."""
        seat = self.some_seat()
        name = self.house.names_of(seat.game)[seat.player]
        self.up.append(sent(self.house, seat.game, name, ("move", "nosuch"), **self.chance.choice([{}, {"ahead": 5}])))

    def forge(self):
        letters = [thing for thing in self.up if thing[0] == "letter"]
        if letters:
            letter = self.chance.choice(letters)
            at = self.chance.choice([2, 3, 4, 5, 6, 8, 9])
            forged = (*letter[:at], (letter[at] + 1) % 4, *letter[at + 1:])
            ahead = house_told(self.house, log=False)[1:]
            word = self.do(("hear", forged))
            if word not in ("forged", "none"):
                raise AssertionError(word)
            if house_told(self.house, log=False)[1:] != ahead:
                raise AssertionError(forged)

    def arrive(self):
        if self.up:
            thing = self.up.pop(self.chance.randrange(len(self.up)))
            if thing[0] == "letter":
                self.do(("hear", thing))
            else:
                self.down.append(self.house.table(thing[1]).news(thing[2]))
        if self.down:
            news = self.down.pop(self.chance.randrange(len(self.down)))
            self.chance.choice(self.seats[news[1]]).hear(news)

    def lose_or_copy(self):
        for line in [self.up, self.down]:
            if line:
                at = self.chance.randrange(len(line))
                if self.chance.random() < 0.5:
                    del line[at]
                else:
                    line.append(line[at])

    def step(self):
        steps = [self.wish] * 6 + [self.arrive] * 12 + [self.lose_or_copy] * 2 + [self.forge]
        roll = self.chance.random()
        if roll < 0.05:
            self.do(("tick", self.chance.choice([1, 4, 9])))
        elif roll < 0.07 and self.house.today() < 400:
            self.do(("day",))
        elif roll < 0.09:
            self.lap(self.chance.choice(list(self.cups)))
        elif roll < 0.095:
            self.cheat()
        elif roll < 0.11:
            self.odd()
        elif roll < 0.13:
            try:
                self.do(self.chance.choice([None, ("tick", 0), ("round", "zoo"), ("member", "ada", "key")]))
            except SteadError:
                pass
        else:
            self.chance.choice(steps)()

    def settle(self):
        """Fair sending on: all send, and all arrives in order."""
        self.up, self.down = [], []
        for _ in range(60):
            for game in self.seats:
                for seat in self.seats[game]:
                    for thing in seat.sends():
                        if thing[0] == "letter":
                            self.do(("hear", thing))
                        else:
                            seat.hear(self.house.table(game).news(thing[2]))


class Whole(unittest.TestCase):
    def played(self, seed):
        lines = Lines(random.Random(seed))
        lines.open("one", "take", ("ada", "bob"))
        lines.open("two", "three", ("cyd", "dan", "eve"))
        lines.open("three", "four", ("eve", "bob", "ada", "cyd"))
        lines.cup("x", ("ada", "bob", "cyd", "dan", "eve"), "take")
        lines.cup("y", ("dan", "cyd", "bob", "ada"), "long")
        lines.lap("x")
        for _ in range(260):
            lines.step()
            self.seats_stand(lines)
        return lines

    def seats_stand(self, lines):
        """(a): what a seat knows is a beginning of the house's own."""
        for game in lines.seats:
            table = lines.house.table(game)
            entries = table.entries()
            for seat in lines.seats[game]:
                many = len(seat.known())
                self.assertEqual(seat.known(), entries[:many])
        game = lines.chance.choice(list(lines.seats))
        table = lines.house.table(game)
        for seat in lines.seats[game]:
            many = len(seat.known())
            self.assertEqual(seat.sure(), table.world(behind=many))
            self.assertEqual(digest(f"{many} {seat.sure().text()}"), table.mark(many))
            if (game, many) in lines.clocks:
                self.assertEqual(seat.clock(), lines.clocks[game, many])

    def replays_tell(self, lines):
        """(b) and (c): a record alone tells worlds and clocks, and each deed is told by a sealed letter."""
        house = lines.house
        for game in house.games():
            table, names = house.table(game), house.names_of(game)
            record = record_of(table)
            self.assertEqual(read_record(record_text(record)), record)
            self.assertIsNone(flaw(record, keys=[MEMBERS[name] for name in names], digest=digest))
            replay = Replay(record)
            for n in range(len(table) + 1):
                self.assertEqual(replay.world(n), table.world(behind=n))
                if (game, n) in lines.clocks:
                    self.assertEqual(replay.clock(n), lines.clocks[game, n])
            for player, name in enumerate(names):
                ahead = 0
                own = [entry[2] for entry in table.entries() if entry[0] in ("deed", "void") and entry[2][2] == player]
                for place, letter in enumerate(own, start=1):
                    self.assertTrue(is_sealed(letter, MEMBERS[name], digest))
                    self.assertEqual(letter[1:5], (game, player, place, ahead))
                    ahead = letter[9]
            if table.catch() is not None:
                self.assertTrue(are_two(*table.catch()))

    def ratings_hold(self, lines):
        """(d): by all games as they stand, in whatever order they were told, mended or struck; each with its paper."""
        house = lines.house
        results = house.book().results()
        by_rule = Plainly(results, LADDER.told())
        other = Book()
        for result in lines.chance.sample(results, len(results)):
            other.tell(result)
        self.assertEqual(ripple(house.book(), other, 400, ladder=LADDER), [])
        for name in house.members():
            for day in range(house.today() + 1):
                self.assertEqual(house.rating(name, day=day), by_rule.rating(name, day))
            told = leads(house, name, 400)
            self.assertTrue(sums(told, LADDER))
            self.assertEqual(told[-1][2] if told else 200, house.rating(name))
            for _, _, _, rows in told:
                for game, _, _, _, numbers in rows:
                    for number in numbers:
                        letter = house.table(game).entries()[number - 1][2]
                        self.assertTrue(is_sealed(letter, MEMBERS[name], digest))

    def struck_games_ripple(self, lines):
        """(e): a game that is struck changes just what hangs on it."""
        book = lines.house.book()
        for game in [result[0] for result in book.results()][:3]:
            other = book.twin()
            day = [result[1] for result in book.results() if result[0] == game][0]
            other.strike(game)
            ripples = ripple(book, other, 400, ladder=LADDER)
            self.assertTrue(all([row[1] >= day for row in ripples]))
            ends = [ratings(one, 400, ladder=LADDER) for one in (book, other)]
            last = max([*book.days(), *other.days()])
            changed = {row[0]: row[2:] for row in ripples if row[1] == last}
            for name in ends[0]:
                one, two = ends[0][name], ends[1].get(name, 200)
                self.assertEqual(changed.get(name), (one, two) if one != two else None)

    def the_judge_walks_it(self, lines):
        """(f) and (g): the judge over the books, and a new house led by the deeds, also by their texts."""
        house = lines.house
        books = books_of(house)
        self.assertIsNone(judged(books, digest))
        other = led(digest, house.deeds(), ladder=LADDER)
        self.assertEqual(house_told(other, log=False), house_told(house, log=False))
        self.assertEqual(books_of(other), books)
        self.assertEqual(house_told(house.twin()), house_told(house))
        many = len(house.log()) // 2
        self.assertEqual(house.log(), [(word, k) for k in range(1, many + 1) for word in ("begin", "end")])
        for deed in house.deeds():
            if deed[0] != "rule":
                self.assertEqual(read_deed(deed_text(deed)), deed)

    def test_whole(self):
        words = {}
        for seed in range(12):
            lines = self.played(seed)
            lines.settle()
            # By fair sending on all come to all.
            for game in lines.seats:
                table = lines.house.table(game)
                for seat in lines.seats[game]:
                    self.assertEqual((seat.known(), seat.sure(), seat.clock()),
                                     (table.entries(), table.world(), table.clock()))
            self.replays_tell(lines)
            self.ratings_hold(lines)
            self.struck_games_ripple(lines)
            self.the_judge_walks_it(lines)
            words.update(lines.words)
            for result in lines.house.book().results():
                words[lines.house.table(result[0]).world().why()] = True
        for word in ["done", "void", "again", "two", "over", "waits", "torn", "drift", "forged", "none", "struck",
                     "stuck", "given", "fall", "even"]:
            self.assertIn(word, words)


if __name__ == "__main__":
    unittest.main()
