"""[60], [61]: seats, and of [71] what they ask of entries that follow."""

import copy
import random
import unittest

from makers import (
    KEYS, NO_NUMBERS, NO_TIMES, OTHERS, Digest, DigestFails, digest, flat_clock, letter_to, long_rule, row_of_letters,
    take_rule,
)
from playstead.clocks import Clock
from playstead.errors import Drift, NoClock, NoKey, NoName, NoNews, NoPlayer, NoRule, NoWish, TooMany
from playstead.letters import sealed
from playstead.rules import Rule
from playstead.seats import Seat
from playstead.tables import Table
from playstead.worlds import World

UP, DOWN, GIVE, EVEN = ("move", "up"), ("move", "down"), ("give",), ("even",)


def table_of(rule=None, clock=None, by=digest):
    rule = long_rule() if rule is None else rule
    players = rule.told()[2]
    table = Table("nim", rule, flat_clock(players=players) if clock is None else clock, KEYS[:players], by)
    table.starts(0)
    return table


def seat_of(player=0, rule=None, clock=None, by=digest):
    rule = long_rule() if rule is None else rule
    clock = flat_clock(players=rule.told()[2]) if clock is None else clock
    return Seat("nim", rule, clock, player, KEYS[player], by)


def whole(seat):
    # A copy: what is told must be the asker's own, but that is to be tested.
    return copy.deepcopy([seat.known(), seat.sure(), seat.clock(), seat.shown(), seat.out(), seat.sends()])


def news_of(known, entries, world, *, game="nim"):
    """News with the right mark of that world."""
    return ("news", game, known, tuple(entries), digest(f"{known + len(entries)} {world.text()}"))


def played_table(many=11):
    """A table with so many entries: one open, then moves by turns, with a void and an even among them."""
    table = table_of(take_rule(start=9, most=60))
    deeds = [(0, ("move", "one")), (0, ("move", "one")), (1, ("move", "one")), (1, EVEN), (0, ("move", "one"))] + [
        (k % 2 ^ 1, ("move", "one")) for k in range(6)
    ]
    for time, (player, deed) in enumerate(deeds):
        if len(table) < many:
            table.hear(letter_to(table, player, deed, stamp=time), time + 1)
    return table


class Case(unittest.TestCase):
    def refused(self, kind, field, thing, seat, do):
        ahead = whole(seat)
        with self.assertRaises(kind, msg=repr(thing)) as caught:
            do()
        if field is not None:
            self.assertEqual(repr(getattr(caught.exception, field)), repr(thing))
        self.assertEqual(whole(seat), ahead)

    def drifts(self, seat, news, number):
        self.refused(Drift, "number", number, seat, lambda: seat.hear(news))

    def stands(self, seat, table, many):
        """[2] (a): what the seat knows of a game is the house's own behind as many entries."""
        self.assertEqual(seat.known(), table.entries()[:many])
        self.assertEqual(seat.sure(), table.world(behind=many))
        if many == len(table):
            self.assertEqual(seat.clock(), table.clock())


class Made(Case):
    def parts(self):
        return {"game": "nim", "rule": long_rule(), "clock": flat_clock(), "player": 1, "key": KEYS[1],
                "digest": digest}

    def test_by_place_and_by_name(self):
        for seat in [Seat("nim", long_rule(), flat_clock(), 1, KEYS[1], digest), Seat(**self.parts())]:
            self.assertEqual((seat.known(), seat.out(), seat.sends()), ([], [], [("ask", "nim", 0)]))
            self.assertEqual((seat.sure(), seat.shown(), seat.clock()),
                             (World(long_rule()), World(long_rule()), flat_clock()))

    def test_what_is_refused(self):
        wrong = [
            ("game", NoName, [*NO_NUMBERS, 0, "Nim"]), ("rule", NoRule, [*OTHERS, 0, flat_clock()]),
            ("clock", NoClock, [*OTHERS, 0, flat_clock(players=3), flat_clock().told()]),
            ("player", NoPlayer, [*NO_NUMBERS, -1, 2, 10 ** 39]),
            ("key", NoKey, [*OTHERS, 0, "k" * 21, "Key", KEYS[:2]]),
        ]
        fields = {"game": "name", "player": "player"}
        for part, kind, things in wrong:
            for thing in things:
                with self.assertRaises(kind, msg=(part, thing)) as caught:
                    Seat(**{**self.parts(), part: thing})
                if part in fields:
                    self.assertEqual(repr(getattr(caught.exception, fields[part])), repr(thing))
        for at, (_, kind, _) in enumerate(wrong):
            with self.assertRaises(kind):
                Seat(**{**self.parts(), **{part: None for part, _, _ in wrong[at:]}})
        for player in range(4):
            Seat("nim", long_rule(players=4), flat_clock(players=4), player, "k", digest)

    def test_the_clock_changed_behind(self):
        clock = flat_clock()
        clock.begin(1, 50)
        seat = Seat("nim", long_rule(), clock, 0, "k", digest)
        clock.press(60)
        self.assertEqual(seat.clock(), flat_clock())


class News(Case):
    def test_in_order(self):
        table, seat = played_table(), seat_of(rule=take_rule(start=9, most=60))
        self.assertEqual(len(table), 11)
        for known, many in [(0, 4), (4, 8), (8, 11)]:
            self.assertIs(seat.hear(news=table.news(known)), True)
            self.stands(seat, table, many)
        self.assertEqual(seat.clock(), table.clock())

    def test_each_number_of_entries(self):
        table = played_table()
        for many in range(5):
            for known in range(12 - many):
                seat = seat_of(rule=take_rule(start=9, most=60))
                for at in range(known):
                    seat.hear(news_of(at, table.entries()[at:at + 1], table.world(behind=at + 1)))
                self.stands(seat, table, known)
                news = news_of(known, table.entries()[known:known + many], table.world(behind=known + many))
                self.assertIs(seat.hear(news), many > 0)
                self.stands(seat, table, known + many)

    def test_overlapping(self):
        table, seat = played_table(), seat_of(rule=take_rule(start=9, most=60))
        for known, tells, many in [(0, True, 4), (2, True, 6), (6, True, 10), (7, True, 11), (10, False, 11)]:
            self.assertIs(seat.hear(table.news(known)), tells)
            self.stands(seat, table, many)

    def test_nothing_new(self):
        table, seat = played_table(), seat_of(rule=take_rule(start=9, most=60))
        self.assertIs(seat.hear(news_of(0, [], table.world(behind=0))), False)
        for known in [0, 4, 8]:
            seat.hear(table.news(known))
        for known in range(12):
            self.assertIs(seat.hear(table.news(known)), False)
            for many in range(4):
                if known + many <= 11:
                    news = news_of(known, table.entries()[known:known + many], table.world(behind=known + many))
                    self.assertIs(seat.hear(news), False)
        self.stands(seat, table, 11)

    def test_beyond_what_is_known(self):
        table, seat = played_table(), seat_of(rule=take_rule(start=9, most=60))
        for news in [table.news(1), table.news(4), ("news", "nim", 1, (), 5), ("news", "nim", 9, ((), ()), -5),
                     ("news", "nim", 10 ** 39, (("open", 0),), 0)]:
            self.assertIs(seat.hear(news), False)
        self.assertEqual(seat.known(), [])
        seat.hear(table.news(0))
        for news in [table.news(5), table.news(8), ("news", "nim", 5, (("open", 0),), 5)]:
            self.assertIs(seat.hear(news), False)
        self.stands(seat, table, 4)

    def test_no_news(self):
        table, seat = played_table(), seat_of(rule=take_rule(start=9, most=60))
        right = table.news(0)
        wrong = [*OTHERS, 0, 5, right[:-1], (*right, 0), list(right), (right,), ("ask", "nim", 0), table.entries()[1]]
        for at, things in [
            (0, [*OTHERS, 0, "New", ["news"]]), (1, [*NO_NUMBERS, 0, "nym", "Nim", ["nim"]]),
            (2, [*NO_NUMBERS, -1, -(10 ** 39)]), (4, NO_NUMBERS),
            (3, [None, True, 0, 5, "", "abc", {}, [], list(right[3]), (None,), ([],), (0,), ("open",),
                 right[3] + (None,),
                 (list(right[3][0]),), right[3][:2] + ({},), right[3] + (right[3][3],), ((),) * 5]),
        ]:
            wrong += [(*right[:at], thing, *right[at + 1:]) for thing in things]
        for news in wrong:
            self.refused(NoNews, None, None, seat, lambda: seat.hear(news))
        self.assertIs(seat.hear(right), True)
        for news in wrong:
            self.refused(NoNews, None, None, seat, lambda: seat.hear(news))
        # No news come ahead of what begins beyond what is known.
        self.refused(NoNews, None, None, seat, lambda: seat.hear(("news", "nym", 9, (), 0)))

    def test_of_another_game(self):
        table, seat = table_of(), seat_of()
        news = table.news(0)
        self.refused(NoNews, None, None, seat, lambda: seat.hear(("news", "nym", *news[2:])))

    def test_another_mark(self):
        table = played_table()
        for ahead in [[], [0], [0, 4], [0, 4, 8]]:
            seat = seat_of(rule=take_rule(start=9, most=60))
            for known in ahead:
                seat.hear(table.news(known))
            for known in range(min(11, 4 * len(ahead)) + 1):
                right = table.news(known)
                for mark in [right[4] + 1, right[4] - 1, -1, 0, -right[4], 10 ** 39, table.mark(0) + 1]:
                    self.drifts(seat, (*right[:4], mark), known + len(right[3]))
                self.drifts(seat, ("news", "nim", known, (), table.mark(known) + 1), known)

    def test_a_wrong_entry_at_each_place(self):
        table = played_table()
        for ahead in [[], [0], [0, 4]]:
            known = 4 * len(ahead)
            for at in range(4):
                for begin in [known, max(0, known - 2)]:
                    seat = seat_of(rule=take_rule(start=9, most=60))
                    for one in ahead:
                        seat.hear(table.news(one))
                    right = table.news(begin)
                    if begin + at >= known and at < len(right[3]):
                        for wrong in [(), ("open", 0), ("fall", 1, 0), ("open", 0, 0), right[3][at] + (0,), ("void",),
                                      (None,)]:
                            if wrong != right[3][at]:
                                entries = (*right[3][:at], wrong, *right[3][at + 1:])
                                self.drifts(seat, (*right[:3], entries, right[4]), begin + at)
                                self.drifts(seat, (*right[:3], entries, 0), begin + at)
                    self.assertEqual(seat.known(), table.entries()[:known])

    def test_unlike_the_known_one(self):
        table, seat = played_table(), seat_of(rule=take_rule(start=9, most=60))
        for known in [0, 4, 8]:
            seat.hear(table.news(known))
        entries = table.entries()
        for begin in range(11):
            for at in range(min(4, 11 - begin)):
                entry = entries[begin + at]
                letter = entry[2] if len(entry) > 2 else None
                others = [(entry[0], entry[1] + 1, *entry[2:]), (), (*entry, 0), ("fall", entry[1], 0)]
                if letter is not None:
                    others.append(("deed" if entry[0] == "void" else "void", *entry[1:]))
                    others.append((*entry[:2], (*letter[:9], letter[9] + 1)))
                for other in others:
                    news = table.news(begin)
                    told = (*news[3][:at], other, *news[3][at + 1:])
                    self.drifts(seat, (*news[:3], told, news[4]), begin + at)

    def test_truths_are_no_numbers(self):
        table, seat = table_of(), seat_of()
        mark = table.mark(1)
        self.drifts(seat, ("news", "nim", 0, (("open", False),), mark), 0)
        seat.hear(table.news(0))
        self.drifts(seat, ("news", "nim", 0, (("open", False),), mark), 0)
        letter = letter_to(table, 0, UP)
        table.hear(letter, 1)
        seat.hear(table.news(0))
        for wrong in [(*letter[:3], True, *letter[4:]), (*letter[:2], False, *letter[3:]),
                      (*letter[:8], False, letter[9])]:
            self.assertEqual(wrong, letter)
            self.drifts(seat, ("news", "nim", 1, (("deed", 1, wrong),), table.mark(2)), 1)
        self.drifts(seat, ("news", "nim", 1, (("deed", True, letter),), table.mark(2)), 1)

    def test_a_digest_that_raises(self):
        by = Digest()
        table, seat = table_of(), seat_of(by=by)
        by.fail_at(1)
        self.refused_by_digest(seat, lambda: seat.hear(table.news(0)), by)
        by.fails_at = None
        self.assertIs(seat.hear(table.news(0)), True)
        by.fail_at(1)
        self.refused_by_digest(seat, lambda: seat.hear(table.news(1)), by)

    def refused_by_digest(self, seat, do, by):
        with self.assertRaises(DigestFails):
            do()
        by.fails_at = None
        self.assertEqual(len(seat.known()), 0 if len(by.asked) < 2 else 1)

    def test_by_another_digest(self):
        table, seat = table_of(), seat_of(by=lambda text: 5)
        self.drifts(seat, table.news(0), 1)

    def test_handed_nothing_but_texts(self):
        by = Digest()
        seat, table = seat_of(by=by), table_of()
        seat.hear(table.news(0))
        seat.wish(UP, 3)
        self.assertTrue(all([type(text) is str for text in by.asked]))


class Follows(Case):
    """[71], digest and keys aside: each entry that can't follow, behind some that could."""

    def seat_behind(self, entries, rule=None, clock=None):
        seat = seat_of(rule=rule, clock=clock)
        rule = long_rule(players=seat.clock().told()[0]) if rule is None else rule
        world = World(rule)
        for at, entry in enumerate(entries):
            world = self.world_behind(world, entry)
            self.assertIs(seat.hear(news_of(at, [entry], world)), True)
        return seat

    def world_behind(self, world, entry):
        world = world.twin()
        if entry[0] == "deed":
            deed = entry[2][7]
            if deed[0] == "move":
                world.play(deed[1])
            elif deed[0] == "give":
                world.give(entry[2][2])
            else:
                world.even(entry[2][2])
        elif entry[0] in ("fall", "two"):
            world.give(entry[2] if entry[0] == "fall" else entry[2][2], why=entry[0])
        return world

    def can(self, entries, entry, **parts):
        seat = self.seat_behind(entries, **parts)
        news = news_of(len(entries), [entry], self.world_behind(seat.sure(), entry))
        self.assertIs(seat.hear(news), True, repr(entry))
        self.assertEqual(seat.known(), [*entries, entry])

    def cannot(self, entries, entry, **parts):
        seat = self.seat_behind(entries, **parts)
        self.drifts(seat, ("news", "nim", len(entries), (entry,), 0), len(entries))
        # Its number is told as of the first wrong one, whatever mark stands behind it.
        self.drifts(seat, ("news", "nim", len(entries), (entry, entry), 5), len(entries))
        if entries:
            self.drifts(seat, ("news", "nim", len(entries) - 1, (entries[-1], entry), 5), len(entries))

    def letter(self, player, deed, place=1, ahead=0, **parts):
        parts = {"game": "nim", "stamp": 0, **parts}
        return sealed("any", digest, player=player, place=place, ahead=ahead, deed=deed, **parts)

    def test_open_alone_first_and_once(self):
        self.can([], ("open", 0))
        self.can([], ("open", 7))
        up = self.letter(0, UP)
        for entry in [("deed", 0, up), ("void", 0, self.letter(0, DOWN)), ("fall", 0, 0), ("fall", 1000, 0),
                      ("two", 0, self.letter(0, UP), self.letter(0, DOWN))]:
            self.cannot([], entry)
        for entry in [("open", 0), ("open", 5)]:
            self.cannot([("open", 0)], entry)
            self.cannot([("open", 0), ("deed", 0, up)], entry)

    def test_times_never_fall(self):
        up, even = self.letter(0, UP), self.letter(1, EVEN)
        pair = (self.letter(1, EVEN), self.letter(1, GIVE))
        for entries in [[("open", 7)], [("open", 3), ("deed", 7, up)], [("open", 7), ("deed", 7, up)]]:
            self.can(entries, ("deed", 7, even))
            self.can(entries, ("two", 7, *pair))
            self.can(entries, ("deed", 99, even))
            for time in [6, 0]:
                self.cannot(entries, ("deed", time, even))
                self.cannot(entries, ("void", time, self.letter(1, UP)))
                self.cannot(entries, ("two", time, *pair))
                self.cannot(entries, ("fall", time, 0))

    def test_of_this_game_and_a_player_of_it(self):
        for deed, word in [(EVEN, "deed"), (("move", "no"), "void")]:
            self.can([("open", 0)], (word, 0, self.letter(1, deed)))
            self.cannot([("open", 0)], (word, 0, self.letter(1, deed, game="nym")))
            for player in [2, 3]:
                self.cannot([("open", 0)], (word, 0, self.letter(player, deed)))
            self.can([("open", 0)], (word, 0, self.letter(2, deed)), rule=long_rule(players=3))

    def test_its_next_place(self):
        for deed, word in [(EVEN, "deed"), (("move", "no"), "void")]:
            for one, behind in [(self.letter(1, EVEN), "deed"), (self.letter(1, DOWN), "void")]:
                entries = [("open", 0), (behind, 0, one), ("deed", 0, self.letter(0, UP))]
                self.can(entries, (word, 0, self.letter(1, deed, 2, one[9])))
                for place in [1, 3, 4, 99]:
                    self.cannot(entries, (word, 0, self.letter(1, deed, place, one[9])))
                for ahead in [0, one[9] + 1, entries[2][2][9]]:
                    self.cannot(entries, (word, 0, self.letter(1, deed, 2, ahead)))
            self.cannot([("open", 0)], (word, 0, self.letter(1, deed, 1, 5)))
            self.cannot([("open", 0)], (word, 0, self.letter(1, deed, 2, 0)))

    def test_seen_mark_and_seal_are_left_aside(self):
        letter = self.letter(0, UP, seen=99, mark=5)
        self.can([("open", 0)], ("deed", 0, (*letter[:9], 0)))

    def test_a_deed_that_can_be_done_and_a_void_that_can_not(self):
        begun = [("open", 0)]
        done = [(0, UP), (0, EVEN), (1, EVEN), (0, GIVE), (1, GIVE)]
        void = [(0, DOWN), (1, UP), (1, DOWN), (0, ("move", "no"))]
        for player, deed in done:
            self.can(begun, ("deed", 0, self.letter(player, deed)))
            self.cannot(begun, ("void", 0, self.letter(player, deed)))
        for player, deed in void:
            self.can(begun, ("void", 0, self.letter(player, deed)))
            self.cannot(begun, ("deed", 0, self.letter(player, deed)))

    def test_falls(self):
        clock = flat_clock(base=10)
        begun = [("open", 5)]
        self.can(begun, ("fall", 15, 0), clock=clock)
        for entry in [("fall", 15, 1), ("fall", 14, 0), ("fall", 16, 0), ("fall", 15, 2), ("fall", 14, 1),
                      ("fall", 5, 0)]:
            self.cannot(begun, entry, clock=clock)
        moved = [*begun, ("deed", 9, self.letter(0, UP, stamp=9))]
        self.can(moved, ("fall", 19, 1), clock=clock)
        for entry in [("fall", 19, 0), ("fall", 15, 0), ("fall", 18, 1), ("fall", 20, 1)]:
            self.cannot(moved, entry, clock=clock)

    def test_none_is_left_out(self):
        clock = flat_clock(base=10)
        begun = [("open", 5)]
        pair = (self.letter(1, EVEN), self.letter(1, GIVE))
        for time in [15, 16, 500]:
            for entry in [("deed", time, self.letter(0, UP)), ("deed", time, self.letter(1, EVEN)),
                          ("two", time, *pair),
                          ("void", time, self.letter(1, UP))]:
                self.cannot(begun, entry, clock=clock)
                self.can(begun, (entry[0], 14, *entry[2:]), clock=clock)

    def test_two(self):
        begun = [("open", 0)]
        one, other = self.letter(1, EVEN, 7), self.letter(1, GIVE, 7)
        self.can(begun, ("two", 3, one, other))
        self.can(begun, ("two", 3, other, one))
        for wrong in [one, self.letter(1, GIVE, 6), self.letter(0, GIVE, 7), self.letter(1, GIVE, 7, game="nym")]:
            self.cannot(begun, ("two", 3, one, wrong))
            self.cannot(begun, ("two", 3, wrong, one))
        strange = [self.letter(1, deed, game="nym") for deed in [EVEN, GIVE]]
        self.cannot(begun, ("two", 3, *strange))
        beyond = [self.letter(2, deed) for deed in [EVEN, GIVE]]
        self.cannot(begun, ("two", 3, *beyond))
        self.can(begun, ("two", 3, *beyond), rule=long_rule(players=3))

    def test_nothing_behind_the_end(self):
        pair = (self.letter(1, EVEN), self.letter(1, GIVE))
        late = [
            ("deed", 10, self.letter(1, EVEN)), ("void", 10, self.letter(1, UP)), ("two", 10, *pair), ("fall", 10, 0),
            ("fall", 10, 1), ("open", 10), ("void", 10, self.letter(1, EVEN)),
        ]
        clock = flat_clock(base=10)
        for end in [("deed", 1, self.letter(0, GIVE)), ("fall", 10, 0),
                    ("two", 1, self.letter(0, UP), self.letter(0, EVEN))]:
            for entry in late:
                self.cannot([("open", 0), end], entry, clock=clock)
        over = take_rule(start=0)
        for entry in late:
            self.cannot([("open", 0)], entry, rule=over, clock=clock)

    def test_not_built_as_an_entry(self):
        letter = self.letter(0, UP)
        begun = [("open", 0)]
        things = [
            (), ("deed",), ("deed", 0), ("x", 1000), ("x", 0, letter), ("deed", 0, letter, 0), ("deed", letter, 0),
            ("deed", 0, list(letter)),
            ("deed", 0, letter[:9]), ("deed", 0, None), ("done", 0, letter), (["deed"], 0, letter), (None, 0, letter),
            ("void", 0), ("fall", 1000), ("fall", 1000, 0, 0), ("fall", 1000, None), ("two", 0, letter),
            ("two", 0, letter, None), ("two", 0, None, letter), ("two", 0, letter, letter, letter), (0, 0, 0), ({}, []),
            ("two", 0, (letter, letter)), ("fall", 1000, -1), ("fall", 1000, False),
        ]
        for thing in things:
            self.cannot(begun, thing)
        for time in NO_TIMES:
            self.cannot(begun, ("deed", time, letter))
            self.cannot([], ("open", time))
        for thing in [(), ("open",), ("open", 0, 0), ("opens", 0), (None, 0)]:
            self.cannot([], thing)

    def test_all_entries_of_any_table_follow(self):
        for seed in range(40):
            chance = random.Random(seed)
            players = chance.randint(2, 4)
            rule = long_rule(players=players, most=12)
            clock = Clock(players, base=30, kind="grace", plus=3, credit=5)
            table, seat = table_of(rule, clock), seat_of(rule=rule, clock=clock)
            time = 0
            for _ in range(30):
                time += chance.choice([0, 1, 2, 9])
                turn = table.world().turn() or 0
                player = chance.choice([turn, turn, chance.randrange(players)])
                deed = chance.choice([UP, DOWN] * 5 + [EVEN, GIVE])
                table.hear(letter_to(table, player, deed, stamp=max(0, time - 3)), time)
            while len(seat.known()) < len(table):
                self.assertIs(seat.hear(table.news(chance.randint(0, len(seat.known())))) in (True, False), True)
                self.stands(seat, table, len(seat.known()))
            self.assertEqual(seat.clock(), table.clock())


class Wishes(Case):
    def test_the_letter(self):
        table, seat = table_of(), seat_of()
        first = seat.wish(UP, 3)
        self.assertEqual(first, sealed(
            KEYS[0], digest, game="nim", player=0, place=1, deed=UP, ahead=0, seen=0, mark=table.mark(0), stamp=3,
        ))
        seat.hear(table.news(0))
        second = seat.wish(deed=EVEN, stamp=2)
        self.assertEqual(second, sealed(
            KEYS[0], digest, game="nim", player=0, place=2, deed=EVEN, ahead=first[9], seen=1, mark=table.mark(1),
            stamp=2,
        ))
        self.assertEqual(seat.out(), [first, second])
        for letter in [first, second]:
            self.assertEqual(table.hear(letter, 5), "done")
        seat.hear(table.news(1))
        self.assertEqual((len(seat.known()), seat.out()), (3, []))
        third = seat.wish(GIVE, 9)
        self.assertEqual(third[2:7], (0, 3, second[9], 3, table.mark(3)))
        self.assertEqual(table.hear(third, 9), "done")

    def test_of_the_other_player(self):
        table, seat = table_of(), seat_of(1)
        seat.hear(table.news(0))
        letter = seat.wish(EVEN, 3)
        self.assertEqual(letter, letter_to(table, 1, EVEN, stamp=3))

    def test_behind_own_letters_that_are_void(self):
        table, seat = table_of(), seat_of(1)
        void = letter_to(table, 1, UP)
        table.hear(void, 1)
        seat.hear(table.news(0))
        self.assertEqual(seat.wish(EVEN, 3)[3:5], (2, void[9]))

    def test_those_of_others_do_not_count(self):
        table, seat = table_of(), seat_of(1)
        table.hear(letter_to(table, 0, UP), 1)
        seat.hear(table.news(0))
        self.assertEqual(seat.wish(DOWN, 3)[3:6], (1, 0, 2))

    def test_two_at_most(self):
        seat = seat_of()
        for deed in [UP, EVEN]:
            seat.wish(deed, 1)
        for deed in [EVEN, GIVE]:
            self.refused(TooMany, "most", 2, seat, lambda: seat.wish(deed, 1))
        # What is no wish is told ahead of that.
        for deed in [UP, DOWN, None, ("move", "no")]:
            self.refused(NoWish, None, None, seat, lambda: seat.wish(deed, 1))
        self.refused(NoWish, None, None, seat, lambda: seat.wish(EVEN, -1))

    def test_two_at_most_beyond_the_known_ones(self):
        table, seat = table_of(), seat_of()
        letters = [seat.wish(deed, 1) for deed in [UP, EVEN]]
        table.hear(letters[0], 1)
        seat.hear(table.news(0))
        self.assertEqual(seat.out(), letters[1:])
        third = seat.wish(EVEN, 2)
        self.assertEqual(third[3:6], (3, letters[1][9], 2))
        self.refused(TooMany, "most", 2, seat, lambda: seat.wish(EVEN, 2))

    def test_no_wish_of_no_deed(self):
        seat = seat_of()
        for thing in [*OTHERS, 0, 5, "give", ["give"], ("move",), ("move", "up", "up"), ("give", 0), ("Even",),
                      ("wish", UP)]:
            self.refused(NoWish, None, None, seat, lambda: seat.wish(thing, 1))

    def test_no_wish_of_no_time(self):
        seat = seat_of()
        for thing in NO_TIMES:
            self.refused(NoWish, None, None, seat, lambda: seat.wish(UP, thing))

    def test_no_wish_of_a_move_that_is_not_allowed(self):
        for deed in [DOWN, ("move", "no")]:
            seat = seat_of()
            self.refused(NoWish, None, None, seat, lambda: seat.wish(deed, 1))
        for deed in [UP, DOWN]:
            seat = seat_of(1)
            self.refused(NoWish, None, None, seat, lambda: seat.wish(deed, 1))

    def test_no_wish_by_what_is_shown(self):
        seat = seat_of()
        seat.wish(UP, 1)
        for deed in [UP, DOWN]:
            self.refused(NoWish, None, None, seat, lambda: seat.wish(deed, 1))
        rule = Rule([0], [("a", None, (), ((0, "add", 1),))], most=1)
        seat = seat_of(rule=rule)
        seat.wish(("move", "a"), 1)
        for deed in [("move", "a"), GIVE, EVEN]:
            self.refused(NoWish, None, None, seat, lambda: seat.wish(deed, 1))

    def test_no_wish_where_it_is_over(self):
        table = table_of()
        table.hear(letter_to(table, 1, GIVE), 1)
        seat = seat_of()
        seat.hear(table.news(0))
        for deed in [UP, EVEN, GIVE]:
            self.refused(NoWish, None, None, seat, lambda: seat.wish(deed, 1))
        seat = seat_of()
        seat.wish(GIVE, 1)
        for deed in [UP, EVEN, GIVE]:
            self.refused(NoWish, None, None, seat, lambda: seat.wish(deed, 1))
        seat = seat_of(rule=take_rule(start=0))
        self.refused(NoWish, None, None, seat, lambda: seat.wish(GIVE, 1))

    def test_even_again(self):
        seat = seat_of()
        seat.wish(EVEN, 1)
        seat.wish(EVEN, 1)
        self.assertEqual(seat.shown().evens(), [0])

    def test_a_digest_that_raises(self):
        asking = 1
        while True:
            by = Digest()
            seat = seat_of(by=by)
            seat.wish(EVEN, 1)
            ahead = whole(seat)
            by.fail_at(asking)
            try:
                letter = seat.wish(UP, 2)
            except DigestFails:
                by.fails_at = None
                self.assertEqual(whole(seat), ahead)
                asking += 1
            else:
                self.assertEqual(letter[3], 2)
                break
        self.assertGreater(asking, 1)


class Shown(Case):
    def test_beyond_what_is_sure(self):
        table, seat = table_of(), seat_of()
        seat.hear(table.news(0))
        seat.wish(UP, 1)
        self.assertEqual((seat.sure().played(), seat.shown().played()), ([], ["up"]))
        seat.wish(EVEN, 1)
        self.assertEqual((seat.sure().evens(), seat.shown().evens(), seat.shown().turn()), ([], [0], 1))
        self.assertEqual(seat.clock(), table.clock())

    def test_given(self):
        seat = seat_of(1)
        seat.wish(GIVE, 1)
        self.assertEqual((seat.shown().points(), seat.shown().why(), seat.sure().why()), ((2, 0), "given", None))

    def test_behind_what_others_did(self):
        table, seat = table_of(), seat_of()
        seat.hear(table.news(0))
        letters = [seat.wish(UP, 1), seat.wish(EVEN, 1)]
        self.assertEqual((seat.shown().played(), seat.shown().evens()), (["up"], [0]))
        table.hear(letter_to(table, 1, EVEN), 1)
        seat.hear(table.news(1))
        # The move clears what the other has said; the guess is made anew behind it.
        self.assertEqual((seat.sure().evens(), seat.shown().played(), seat.shown().evens()), ([1], ["up"], [0]))
        self.assertEqual(seat.out(), letters)

    def test_one_that_can_not_be_done_stops_those_behind_it(self):
        rule = Rule([0], [("up", None, ((0, "is", 0),), ((0, "add", 1),)), ("skip", None, (), ((0, "put", 3),)),
                          ("down", None, ((0, "least", 1),), ((0, "add", -1),))])
        table, seat = table_of(rule), seat_of(1, rule=rule)
        table.hear(letter_to(table, 0, ("move", "skip")), 1)
        seat.hear(table.news(0))
        letters = [seat.wish(("move", "down"), 1), seat.wish(EVEN, 1)]
        self.assertEqual((seat.shown().cells(), seat.shown().evens()), ((2,), [1]))
        # Another letter of its own stands at the first place: what it shows begins behind that.
        other = letter_to(table, 1, ("move", "skip"))
        table.hear(other, 2)
        seat.hear(table.news(2))
        self.assertEqual(seat.out(), letters[1:])
        self.assertEqual((seat.shown().cells(), seat.shown().evens(), seat.shown().turn()), ((3,), [1], 0))

    def test_a_move_that_is_no_longer_its_turn(self):
        rule = long_rule()
        table, seat = table_of(rule), seat_of(0, rule=rule)
        letters = [seat.wish(EVEN, 1), seat.wish(UP, 1)]
        strange = row_of_letters(table, 0, [UP])[0]
        table.hear(strange, 1)
        seat.hear(table.news(0))
        # Its first place is taken by a letter that it didn't wish: the move behind it can't be done.
        self.assertEqual(seat.out(), letters[1:])
        self.assertEqual(seat.shown(), seat.sure())
        self.assertEqual(seat.shown().played(), ["up"])
        seat.wish(EVEN, 2)
        self.assertEqual((seat.shown(), len(seat.out())), (seat.sure(), 2))
        self.assertEqual(seat.shown().evens(), [])

    def test_over_by_others(self):
        table, seat = table_of(), seat_of()
        seat.wish(UP, 1)
        table.hear(letter_to(table, 1, GIVE), 1)
        seat.hear(table.news(0))
        self.assertEqual((seat.shown(), seat.shown().why()), (table.world(), "given"))
        self.assertEqual(len(seat.out()), 1)


class Told(Case):
    def test_sends(self):
        table, seat = table_of(), seat_of()
        self.assertEqual(seat.sends(), [("ask", "nim", 0)])
        one = seat.wish(UP, 1)
        self.assertEqual(seat.sends(), [one, ("ask", "nim", 0)])
        seat.hear(table.news(0))
        two = seat.wish(EVEN, 1)
        self.assertEqual(seat.sends(), [one, two, ("ask", "nim", 1)])
        table.hear(one, 1)
        seat.hear(table.news(1))
        self.assertEqual(seat.sends(), [two, ("ask", "nim", 2)])

    def test_what_is_told_is_the_askers_own(self):
        table, seat = table_of(), seat_of()
        seat.hear(table.news(0))
        seat.wish(UP, 1)
        ahead = whole(seat)
        for told in [seat.known(), seat.out(), seat.sends()]:
            self.assertIs(type(told), list)
            told.clear()
            told.append(None)
        seat.sure().give(0)
        seat.shown().give(0)
        seat.clock().stop(5)
        self.assertEqual(whole(seat), ahead)
        self.assertEqual(whole(seat), ahead)

    def test_refused_news_leave_what_was_right_in_them(self):
        table, seat = played_table(), seat_of(rule=take_rule(start=9, most=60))
        news = table.news(0)
        for at in range(1, 4):
            self.drifts(seat, (*news[:3], (*news[3][:at], (), *news[3][at + 1:]), news[4]), at)
            self.assertEqual(seat.known(), [])


if __name__ == "__main__":
    unittest.main()
