"""[50], [51], [52]: games at the house."""

import copy
import random
import unittest

from makers import (
    KEYS, NO_NUMBERS, NO_TIMES, OTHERS, Digest, DigestFails, digest, flat_clock, letter_to, long_rule, row_of_letters,
    standing, take_rule,
)
from playstead.clocks import PARTS, Clock
from playstead.errors import NoClock, NoEntry, NoKey, NoName, NoPlayer, NoRule, NoTime
from playstead.letters import are_two, is_letter, is_sealed, sealed
from playstead.rules import Rule
from playstead.tables import Table
from playstead.worlds import World

UP, DOWN, GIVE, EVEN = ("move", "up"), ("move", "down"), ("give",), ("even",)


def table_of(rule=None, clock=None, by=digest, starts=0):
    rule = long_rule() if rule is None else rule
    players = rule.told()[2]
    table = Table("nim", rule, flat_clock(players=players) if clock is None else clock, KEYS[:players], by)
    if starts is not None:
        table.starts(starts)
    return table


def whole(table):
    """All that a table tells without time."""
    numbers = range(len(table) + 1)
    told = [
        table.entries(), table.world(), table.clock(), table.catch(), len(table),
        [table.next_place(player) for player in range(table.clock().told()[0])],
        [table.mark(n) for n in numbers], [table.world(behind=n) for n in numbers], [table.news(n) for n in numbers],
    ]
    # A copy: what is told must be the asker's own, but that is to be tested.
    return copy.deepcopy(told)


class Case(unittest.TestCase):
    def refused(self, kind, field, thing, table, do):
        ahead = whole(table)
        with self.assertRaises(kind, msg=repr(thing)) as caught:
            do()
        if field is not None:
            self.assertEqual(repr(getattr(caught.exception, field)), repr(thing))
        self.assertEqual(whole(table), ahead)

    def hears(self, table, letter, time, word, came=()):
        """What is heard tells this word, and just these entries come by it."""
        ahead = table.entries()
        self.assertEqual(table.hear(letter, time), word)
        self.assertEqual(table.entries(), [*ahead, *came])

    def same(self, one, other):
        self.assertEqual(whole(one), whole(other))


class Made(Case):
    def parts(self):
        return {"game": "nim", "rule": long_rule(), "clock": flat_clock(), "keys": KEYS[:2], "digest": digest}

    def test_by_place_and_by_name(self):
        for table in [Table("nim", long_rule(), flat_clock(), KEYS[:2], digest), Table(**self.parts())]:
            self.assertEqual((len(table), table.entries(), table.catch()), (0, [], None))
            self.assertEqual(table.world(), World(long_rule()))
            self.assertEqual(table.clock(), flat_clock())

    def test_keys_as_a_tuple(self):
        table = Table(**{**self.parts(), "keys": tuple(KEYS[:2])})
        table.starts(0)
        self.assertEqual(table.hear(letter_to(table, 1, EVEN), 0), "done")

    def test_no_name(self):
        for thing in [*NO_NUMBERS, 0, "abcdefghi", "Nim"]:
            with self.assertRaises(NoName) as caught:
                Table(**{**self.parts(), "game": thing})
            self.assertEqual(repr(caught.exception.name), repr(thing))

    def test_no_rule(self):
        for thing in [*OTHERS, 0, long_rule().told(), World(long_rule())]:
            with self.assertRaises(NoRule):
                Table(**{**self.parts(), "rule": thing})

    def test_no_clock(self):
        for thing in [*OTHERS, 0, flat_clock().told(), long_rule(), flat_clock(players=3), flat_clock(players=4)]:
            with self.assertRaises(NoClock):
                Table(**{**self.parts(), "clock": thing})
        with self.assertRaises(NoClock):
            Table(**{**self.parts(), "rule": long_rule(players=3), "keys": KEYS[:3]})

    def test_no_key(self):
        for thing in [*OTHERS, 0, "ab", KEYS[:1], KEYS[:3], [], (), [KEYS[0], "Key"], ["", KEYS[1]], [KEYS[0], None],
                      [KEYS[0], "k" * 21], [0, 1], (KEYS[0],), {KEYS[0]: 1, KEYS[1]: 2}]:
            with self.assertRaises(NoKey, msg=repr(thing)):
                Table(**{**self.parts(), "keys": thing})
        Table(**{**self.parts(), "keys": ["k", "k" * 20]})

    def test_the_first_of_several(self):
        wrong = [("game", "Nim", NoName), ("rule", None, NoRule), ("clock", None, NoClock), ("keys", None, NoKey)]
        for at, (_, _, kind) in enumerate(wrong):
            parts = {**self.parts(), **{part: thing for part, thing, _ in wrong[at:]}}
            with self.assertRaises(kind):
                Table(**parts)

    def test_what_was_handed_in_changed_behind(self):
        parts = self.parts()
        table = Table(**parts)
        parts["clock"].begin(1, 50)
        parts["keys"].reverse()
        parts["keys"].append("more")
        self.assertEqual(table.clock(), flat_clock())
        table.starts(0)
        self.assertEqual(table.clock().running(), 0)
        self.assertEqual(table.hear(letter_to(table, 0, UP), 1), "done")
        self.assertEqual(parts["clock"].running(), 1)
        self.assertEqual(parts["clock"].left(0, 50), 1000)

    def test_a_clock_that_has_run(self):
        clock = flat_clock()
        clock.begin(1, 50)
        clock.press(60)
        table = Table("nim", long_rule(), clock, KEYS[:2], digest)
        self.assertEqual(table.clock(), flat_clock())
        table.starts(0)
        self.assertEqual((table.left(1, 0), clock.left(1, 60), clock.running()), (1000, 990, 0))


class Starts(Case):
    def test_the_entry(self):
        for time in [0, 7]:
            table = table_of(starts=None)
            self.assertIsNone(table.starts(time=time))
            self.assertEqual(table.entries(), [("open", time)])
            self.assertEqual((table.clock().running(), table.clock().falls(), len(table)), (0, time + 1000, 1))
            self.assertEqual(table.world(), World(long_rule()))

    def test_once(self):
        table = table_of(starts=3)
        for time in [0, 3, 4]:
            self.refused(NoTime, "time", time, table, lambda: table.starts(time))

    def test_no_time(self):
        table = table_of(starts=None)
        for thing in NO_TIMES:
            self.refused(NoTime, "time", thing, table, lambda: table.starts(thing))
        table.starts(0)
        for thing in NO_TIMES:
            self.refused(NoTime, "time", thing, table, lambda: table.starts(thing))

    def test_no_time_where_no_clock_would_begin(self):
        table = table_of(take_rule(start=0), starts=None)
        for thing in NO_TIMES:
            self.refused(NoTime, "time", thing, table, lambda: table.starts(thing))
        table.starts(3)
        for time in [0, 3, 4]:
            self.refused(NoTime, "time", time, table, lambda: table.starts(time))
        table = table_of()
        table.hear(letter_to(table, 0, GIVE), 5)
        for time in [0, 5, 6]:
            self.refused(NoTime, "time", time, table, lambda: table.starts(time))

    def test_a_game_that_is_over_at_the_beginning(self):
        table = table_of(take_rule(start=0))
        self.assertEqual(table.entries(), [("open", 0)])
        self.assertIsNone(table.clock().running())
        self.assertEqual((table.world().why(), table.tick(10 ** 6)), ("stuck", []))
        one, other = [letter_to(table, 1, deed) for deed in [GIVE, EVEN]]
        self.hears(table, one, 10 ** 6, "over")
        self.assertIs(table.claim(one, other, 10 ** 6), True)
        self.assertEqual((table.catch(), len(table)), ((one, other), 1))


class Times(Case):
    def steps(self, table, letter, thing):
        return [
            lambda: table.hear(letter, thing), lambda: table.hear(None, thing), lambda: table.tick(thing),
            lambda: table.claim(letter, letter, thing), lambda: table.claim(None, None, thing),
        ]

    def test_ahead_of_starts(self):
        table = table_of(starts=None)
        letter = letter_to(table, 0, UP)
        for thing in [0, 1, *NO_TIMES]:
            for step in self.steps(table, letter, thing):
                self.refused(NoTime, "time", thing, table, step)

    def test_no_time(self):
        table = table_of(starts=5)
        for thing in NO_TIMES:
            for step in self.steps(table, letter_to(table, 0, UP), thing):
                self.refused(NoTime, "time", thing, table, step)

    def test_ahead_of_the_last(self):
        table = table_of(starts=5)
        letters = row_of_letters(table, 0, [EVEN] * 3)
        time = 5
        for go_on in [
            lambda: table.hear(letters[0], time), lambda: table.hear(letters[0], time), lambda: table.hear("no", time),
            lambda: table.tick(time), lambda: table.claim(1, 2, time),
            lambda: table.claim(letters[1], letters[0], time),
        ]:
            for thing in [time - 1, 0]:
                for step in self.steps(table, letters[1], thing):
                    self.refused(NoTime, "time", thing, table, step)
            time += 3
            go_on()
        self.assertEqual(table.hear(letters[1], time), "done")

    def test_what_is_refused_tells_no_time(self):
        table = table_of(starts=5)
        for step in self.steps(table, None, -1) + [lambda: table.starts(99), lambda: table.left(0, 4)]:
            with self.assertRaises(NoTime):
                step()
        table.left(0, 99)
        self.assertEqual(table.tick(5), [])


class Words(Case):
    def test_none(self):
        table = table_of()
        for thing in [*OTHERS, 0, 5, ("ask", "nim", 1), ("open", 0), [letter_to(table, 0, UP)],
                      list(letter_to(table, 0, UP))]:
            self.hears(table, thing, 1, "none")
        self.hears(table, letter_to(table, 0, UP, game="nym"), 1, "none")
        for player in [2, 3]:
            self.hears(table, letter_to(table, player, UP), 1, "none")
        three = table_of(long_rule(players=3))
        letter = letter_to(three, 2, EVEN)
        self.hears(three, letter, 1, "done", [("deed", 1, letter)])
        self.hears(three, letter_to(three, 3, EVEN), 1, "none")

    def test_none_comes_ahead_of_forged(self):
        table = table_of()
        self.hears(table, letter_to(table, 0, UP, game="nym", key="wrong"), 1, "none")
        self.hears(table, letter_to(table, 2, UP, key="wrong"), 1, "none")

    def test_forged(self):
        table = table_of()
        letter = letter_to(table, 0, UP)
        for wrong in [letter_to(table, 0, UP, key=KEYS[1]), letter_to(table, 0, UP, key="wrong"),
                      (*letter[:9], (letter[9] + 1) % 10 ** 30), (*letter[:7], DOWN, *letter[8:]),
                      (*letter[:8], 1, letter[9]), letter_to(table, 1, UP, key=KEYS[0])]:
            self.hears(table, wrong, 1, "forged")
        self.hears(table, letter, 1, "done", [("deed", 1, letter)])

    def test_forged_comes_ahead_of_all_behind_it(self):
        table = table_of()
        one = letter_to(table, 0, UP)
        table.hear(one, 1)
        waiting = letter_to(table, 0, EVEN, place=3)
        table.hear(waiting, 1)
        for parts in [{"place": 1}, {"place": 3}, {"place": 11}, {"place": 12}, {"place": 4}, {"ahead": 5},
                      {"seen": 9}]:
            self.hears(table, letter_to(table, 0, UP, key="wrong", **parts), 1, "forged")
        self.assertIsNone(table.catch())
        table.hear(letter_to(table, 1, GIVE), 1)
        self.hears(table, letter_to(table, 0, UP, key="wrong"), 1, "forged")

    def test_done(self):
        table = table_of()
        for time, player, deed in [(1, 0, UP), (1, 1, DOWN), (5, 0, EVEN), (9, 0, UP)]:
            letter = letter_to(table, player, deed)
            self.hears(table, letter, time, "done", [("deed", time, letter)])
        self.assertEqual(table.world().played(), ["up", "down", "up"])
        letter = letter_to(table, 0, GIVE)
        self.hears(table, letter, 9, "done", [("deed", 9, letter)])
        self.assertEqual((table.world().points(), table.world().why()), ((0, 2), "given"))

    def test_void(self):
        table = table_of()
        for player, deed in [(0, DOWN), (0, ("move", "sideways")), (1, UP), (1, DOWN)]:
            letter = letter_to(table, player, deed)
            self.hears(table, letter, 2, "void", [("void", 2, letter)])
        self.assertEqual([table.next_place(0), table.next_place(1)], [3, 3])
        self.assertEqual((table.world(), table.clock()), (World(long_rule()), table_of().clock()))

    def test_by_whose_turn_it_is_though_any_may(self):
        table = table_of(take_rule(players=3, start=9))
        for player in [1, 2, 0, 1, 0, 2]:
            turn = table.world().turn()
            letter = letter_to(table, player, ("move", "one"))
            word = "done" if player == turn else "void"
            self.hears(table, letter, 2, word, [("deed" if player == turn else "void", 2, letter)])

    def test_even(self):
        table = table_of()
        for player in [1, 1, 0]:
            self.assertIsNone(table.world().why())
            letter = letter_to(table, player, EVEN)
            self.hears(table, letter, 2, "done", [("deed", 2, letter)])
        self.assertEqual((table.world().why(), table.world().points()), ("even", (1, 1)))

    def test_again(self):
        table = table_of()
        done, void = letter_to(table, 0, UP), letter_to(table, 1, UP)
        waiting = letter_to(table, 0, EVEN, place=3)
        for letter in [done, void, waiting]:
            table.hear(letter, 1)
        for letter in [done, void, waiting]:
            for _ in range(2):
                self.hears(table, letter, 2, "again")
        table.hear(letter_to(table, 1, GIVE), 3)
        for letter in [done, void, waiting]:
            self.hears(table, letter, 4, "again")
        self.assertIsNone(table.catch())

    def test_two_of_one_that_stands(self):
        for deed in [UP, DOWN]:
            table = table_of()
            one = letter_to(table, 0, deed)
            other = letter_to(table, 0, EVEN)
            table.hear(one, 1)
            table.hear(letter_to(table, 1, EVEN), 2)
            self.hears(table, other, 7, "two", [("two", 7, one, other)])
            self.assertEqual(table.catch(), (one, other))
            self.assertEqual((table.world().points(), table.world().why()), ((0, 2), "two"))
            self.assertIsNone(table.clock().running())

    def test_two_of_one_that_waits(self):
        table = table_of()
        one, other = [letter_to(table, 1, deed, place=2) for deed in [EVEN, GIVE]]
        table.hear(one, 1)
        self.hears(table, other, 4, "two", [("two", 4, one, other)])
        self.assertEqual(table.catch(), (one, other))
        self.assertEqual((table.world().points(), table.world().why()), ((2, 0), "two"))
        self.assertEqual((table.left(0, 9), table.clock().running()), (996, None))

    def test_two_whatever_else_is_wrong_with_it(self):
        for parts in [{"ahead": 5}, {"seen": 9}, {"mark": 5}, {"stamp": 9}]:
            table = table_of()
            one = letter_to(table, 0, UP)
            other = letter_to(table, 0, UP, **parts)
            table.hear(one, 1)
            self.hears(table, other, 1, "two", [("two", 1, one, other)])

    def test_a_second_catch(self):
        table = table_of()
        letters = [letter_to(table, 0, deed) for deed in [UP, EVEN, GIVE]]
        others = [letter_to(table, 1, deed) for deed in [EVEN, GIVE]]
        table.hear(others[0], 1)
        for letter in letters[:2]:
            table.hear(letter, 1)
        self.assertEqual(table.catch(), tuple(letters[:2]))
        for letter in [letters[1], letters[2], others[1]]:
            self.hears(table, letter, 2, "two")
            self.assertEqual(table.catch(), tuple(letters[:2]))

    def test_two_in_a_game_that_is_over(self):
        table = table_of()
        one, other, third = [letter_to(table, 0, deed) for deed in [UP, EVEN, GIVE]]
        table.hear(one, 1)
        table.hear(letter_to(table, 1, GIVE), 2)
        ahead = table.world()
        self.hears(table, other, 3, "two")
        self.assertEqual((table.catch(), table.world()), ((one, other), ahead))
        self.hears(table, third, 3, "two")
        self.assertEqual(table.catch(), (one, other))

    def test_two_of_one_that_waits_on_in_a_game_that_is_over(self):
        table = table_of()
        one, other = [letter_to(table, 0, deed, place=3) for deed in [UP, EVEN]]
        table.hear(one, 1)
        table.hear(letter_to(table, 1, GIVE), 2)
        self.hears(table, other, 3, "two")
        self.assertEqual(table.catch(), (one, other))

    def test_over(self):
        table = table_of()
        table.hear(letter_to(table, 1, GIVE), 1)
        for parts in [{}, {"place": 2}, {"place": 9}, {"place": 10}, {"place": 99}, {"ahead": 5}, {"seen": 9},
                      {"mark": 5}]:
            self.hears(table, letter_to(table, 0, EVEN, **parts), 2, "over")
        self.hears(table, letter_to(table, 0, EVEN), 2, "over")

    def test_far_and_waits(self):
        for done in [0, 1, 3]:
            for player in [0, 1]:
                for place, word in [(1, "waits"), (8, "waits"), (9, "far"), (10, "far"), (50, "far")]:
                    table = table_of()
                    for letter in row_of_letters(table, player, [DOWN] * done, seen=1, mark=table.mark(1)):
                        table.hear(letter, 1)
                    letter = letter_to(table, player, EVEN, place=1 + done + place)
                    self.hears(table, letter, 2, word)
                    self.hears(table, letter, 2, "again" if word == "waits" else word)

    def test_far_and_waits_come_ahead_of_torn_and_drift(self):
        table = table_of()
        for place, word in [(10, "far"), (9, "waits"), (2, "waits")]:
            self.hears(table, letter_to(table, 0, UP, place=place, ahead=5, seen=99), 2, word)

    def test_torn(self):
        table = table_of()
        self.hears(table, letter_to(table, 0, UP, ahead=5), 2, "torn")
        self.hears(table, letter_to(table, 0, UP, ahead=5, seen=99), 2, "torn")
        self.hears(table, letter_to(table, 0, DOWN, ahead=5), 2, "torn")
        for deed, word in [(UP, "done"), (DOWN, "void")]:
            own, others = letter_to(table, 0, deed), letter_to(table, 1, EVEN)
            self.hears(table, own, 2, word, [("deed" if word == "done" else "void", 2, own)])
            table.hear(others, 2)
            for ahead in [0, 5, others[9], own[9] - 1]:
                self.hears(table, letter_to(table, 0, EVEN, ahead=ahead), 2, "torn")
        self.assertEqual(table.next_place(0), 3)
        self.assertEqual(table.hear(letter_to(table, 0, EVEN), 2), "done")

    def test_drift(self):
        table = table_of()
        for player, deed in [(0, UP), (1, DOWN)]:
            table.hear(letter_to(table, player, deed), 1)
        marks = [table.mark(n) for n in range(4)]
        for seen, mark in [(4, marks[3]), (99, marks[3]), (3, marks[2]), (2, marks[3]), (1, marks[0]), (0, marks[1]),
                           (3, 0), (3, digest(table.world().text())), (3, marks[3] - 1)]:
            self.hears(table, letter_to(table, 0, UP, seen=seen, mark=mark), 2, "drift")
            self.hears(table, letter_to(table, 0, DOWN, seen=seen, mark=mark), 2, "drift")
        for seen in range(4):
            twin = table.twin()
            self.assertEqual(twin.hear(letter_to(table, 0, UP, seen=seen, mark=marks[seen]), 2), "done")

    def test_a_letter_of_the_beginning(self):
        table = table_of()
        letter = letter_to(table, 0, UP, seen=0, mark=table.mark(0))
        self.hears(table, letter, 2, "done", [("deed", 2, letter)])


class Waiting(Case):
    def test_heard_in_their_order(self):
        chance = random.Random(51)
        for _ in range(20):
            table = table_of()
            letters = row_of_letters(table, 1, [EVEN, DOWN, UP, EVEN, DOWN, UP, EVEN, EVEN, DOWN])
            rest = letters[1:]
            chance.shuffle(rest)
            for letter in rest:
                self.hears(table, letter, 3, "waits")
            came = [("deed" if letter[7] == EVEN else "void", 8, letter) for letter in letters]
            self.hears(table, letters[0], 8, "done", came)
            self.assertEqual(table.next_place(1), 10)

    def test_as_far_as_they_come(self):
        table = table_of()
        letters = row_of_letters(table, 1, [EVEN] * 5)
        for at, word in [(1, "waits"), (2, "waits"), (4, "waits")]:
            self.hears(table, letters[at], 3, word)
        self.hears(table, letters[0], 4, "done", [("deed", 4, letter) for letter in letters[:3]])
        self.hears(table, letters[4], 4, "again")
        self.hears(table, letters[3], 5, "done", [("deed", 5, letter) for letter in letters[3:]])

    def test_behind_a_void(self):
        table = table_of()
        letters = row_of_letters(table, 1, [UP, EVEN])
        self.hears(table, letters[1], 3, "waits")
        self.hears(table, letters[0], 4, "void", [("void", 4, letters[0]), ("deed", 4, letters[1])])

    def test_those_of_others_wait_on(self):
        table = table_of()
        others = row_of_letters(table, 1, [EVEN, EVEN])
        self.hears(table, others[1], 3, "waits")
        own = letter_to(table, 0, UP)
        self.hears(table, own, 3, "done", [("deed", 3, own)])
        self.hears(table, others[0], 3, "done", [("deed", 3, letter) for letter in others])

    def test_dropped_where_torn(self):
        table = table_of()
        letters = row_of_letters(table, 1, [EVEN] * 3)
        torn = letter_to(table, 1, EVEN, place=2, ahead=5)
        self.hears(table, torn, 3, "waits")
        self.hears(table, letters[2], 3, "waits")
        self.hears(table, letters[0], 3, "done", [("deed", 3, letters[0])])
        self.hears(table, torn, 3, "torn")
        self.assertIsNone(table.catch())
        self.hears(table, letters[2], 3, "again")
        self.hears(table, letters[1], 4, "done", [("deed", 4, letter) for letter in letters[1:]])

    def test_dropped_where_drift(self):
        for parts in [{"seen": 9}, {"mark": 5}]:
            table = table_of()
            letters = row_of_letters(table, 1, [EVEN] * 2)
            drift = letter_to(table, 1, EVEN, place=2, ahead=letters[0][9], **parts)
            self.hears(table, drift, 3, "waits")
            self.hears(table, letters[0], 3, "done", [("deed", 3, letters[0])])
            self.hears(table, drift, 3, "drift")
            self.hears(table, letters[1], 3, "done", [("deed", 3, letters[1])])

    def test_a_torn_one_wakes_nobody(self):
        table = table_of()
        letters = row_of_letters(table, 1, [EVEN] * 2)
        self.hears(table, letters[1], 3, "waits")
        self.hears(table, letter_to(table, 1, EVEN, ahead=5), 3, "torn")
        self.hears(table, letters[1], 3, "again")

    def test_waiting_on_where_the_game_is_over(self):
        table = table_of()
        letters = row_of_letters(table, 1, [EVEN, GIVE, EVEN, EVEN])
        for letter in letters[1:]:
            self.hears(table, letter, 3, "waits")
        self.hears(table, letters[0], 4, "done", [("deed", 4, letters[0]), ("deed", 4, letters[1])])
        self.assertEqual(table.next_place(1), 3)
        for letter in letters:
            self.hears(table, letter, 5, "again")

    def test_waiting_on_behind_a_fall_and_two(self):
        table = table_of(clock=flat_clock(base=10))
        letters = row_of_letters(table, 1, [EVEN, EVEN])
        self.hears(table, letters[1], 3, "waits")
        self.hears(table, letters[0], 10, "over", [("fall", 10, 0)])
        self.hears(table, letters[1], 10, "again")
        table = table_of()
        self.hears(table, letters[1], 3, "waits")
        pair = [letter_to(table, 0, deed) for deed in [UP, EVEN]]
        for letter in pair:
            table.hear(letter, 4)
        self.hears(table, letters[0], 4, "over")
        self.hears(table, letters[1], 4, "again")

    def test_the_clock_is_pressed_at_that_time(self):
        table = table_of(take_rule(start=9, players=2), flat_clock(base=100, credit=50))
        own = row_of_letters(table, 0, [EVEN, ("move", "one")], stamp=2)
        self.hears(table, own[1], 5, "waits")
        self.hears(table, own[0], 9, "done", [("deed", 9, letter) for letter in own])
        # From 0 to 9, seven ticks of which it was under way.
        self.assertEqual(table.left(0, 9), 98)
        self.assertEqual(table.clock().falls(), 109)


class Falling(Case):
    def table(self, **parts):
        return table_of(clock=flat_clock(base=10, **parts))

    def test_with_its_own_time_ahead_of_whatever_is_heard(self):
        for time in [10, 11, 500]:
            table = self.table()
            own, others = letter_to(table, 0, UP), letter_to(table, 1, EVEN)
            for thing, word in [
                (own, "over"), (others, "over"), (None, "none"), (letter_to(table, 0, UP, key="wrong"), "forged"),
                (letter_to(table, 0, UP, place=99), "over"),
            ]:
                twin = table.twin()
                self.hears(twin, thing, time, word, [("fall", 10, 0)])
                self.assertEqual((twin.world().points(), twin.world().why()), ((0, 2), "fall"))
                self.assertIsNone(twin.clock().running())
                self.assertEqual((twin.left(0, 10), twin.left(1, 10)), (0, 10))

    def test_a_tick_ahead_of_it(self):
        table = self.table()
        letter = letter_to(table, 0, UP)
        self.hears(table, letter, 9, "done", [("deed", 9, letter)])
        self.assertEqual((table.left(0, 9), table.clock().falls()), (1, 19))
        self.assertEqual(table.tick(18), [])
        self.assertEqual(table.tick(19), [("fall", 19, 1)])

    def test_again_and_two_behind_a_fall(self):
        table = self.table()
        one, other = [letter_to(table, 1, deed) for deed in [EVEN, GIVE]]
        table.hear(one, 4)
        twin = table.twin()
        self.hears(table, one, 30, "again", [("fall", 10, 0)])
        self.hears(twin, other, 30, "two", [("fall", 10, 0)])
        self.assertEqual((twin.catch(), twin.world().why()), ((one, other), "fall"))

    def test_tick(self):
        table = self.table()
        self.assertEqual(table.tick(time=9), [])
        self.assertEqual(table.tick(12), [("fall", 10, 0)])
        self.assertEqual(table.tick(12), [])
        self.assertEqual(table.tick(10 ** 6), [])
        self.assertEqual(table.entries(), [("open", 0), ("fall", 10, 0)])

    def test_ahead_of_a_claim(self):
        table = self.table()
        one, other = [letter_to(table, 1, deed) for deed in [EVEN, GIVE]]
        self.assertIs(table.claim(one, other, 10), True)
        self.assertEqual(table.entries(), [("open", 0), ("fall", 10, 0)])
        self.assertEqual(table.catch(), (one, other))
        table = self.table()
        self.assertIs(table.claim(None, other, 10), False)
        self.assertEqual(table.entries(), [("open", 0), ("fall", 10, 0)])

    def test_nobody_falls_in_a_game_that_is_over(self):
        table = self.table()
        table.hear(letter_to(table, 1, GIVE), 4)
        self.assertEqual(table.tick(99), [])


class Clocks(Case):
    def test_pressed_by_moves_alone(self):
        table = table_of()
        for time, player, deed, running in [(3, 1, EVEN, 0), (5, 1, UP, 0), (6, 0, DOWN, 0), (8, 0, UP, 1),
                                            (9, 0, EVEN, 1)]:
            table.hear(letter_to(table, player, deed, stamp=time), time)
            self.assertEqual(table.clock().running(), running)
        self.assertEqual((table.left(0, 9), table.left(1, 9)), (992, 999))

    def test_late(self):
        for credit, stamp, time, left in [
            (0, 2, 9, 91), (5, 2, 9, 96), (7, 2, 9, 98), (50, 2, 9, 98), (50, 0, 9, 100), (50, 9, 9, 91),
            (50, 12, 9, 91),
            (50, 10 ** 30, 9, 91), (3, 0, 9, 94),
        ]:
            table = table_of(clock=flat_clock(base=100, credit=credit))
            table.hear(letter_to(table, 0, UP, stamp=stamp), time)
            self.assertEqual(table.left(0, time), left, (credit, stamp))

    def test_credit_goes(self):
        table = table_of(clock=flat_clock(base=100, credit=5))
        lefts = []
        for time in [4, 8, 12, 16]:
            table.hear(letter_to(table, time // 4 % 2 ^ 1, [DOWN, UP][time // 4 % 2], stamp=time - 3), time)
            lefts.append((table.left(0, time), table.left(1, time)))
        self.assertEqual(lefts, [(99, 100), (99, 99), (97, 99), (97, 97)])

    def test_late_saves_nobody_from_a_fall(self):
        table = table_of(clock=flat_clock(base=10, credit=1000))
        letter = letter_to(table, 0, UP, stamp=0)
        self.hears(table, letter, 10, "over", [("fall", 10, 0)])

    def test_stopped_where_the_game_is_over_by_a_deed(self):
        for deeds in [[GIVE], [UP], [EVEN, EVEN]]:
            rule = Rule([0], [("up", None, (), ((0, "put", 1),))], most=1)
            table = table_of(rule, Clock(2, base=100, kind="plus", plus=7, credit=50))
            for player, deed in zip([1, 0] if len(deeds) == 2 else [0], deeds):
                table.hear(letter_to(table, player, deed, stamp=0), 30)
            self.assertIsNotNone(table.world().why())
            self.assertIsNone(table.clock().running())
            # Charged without late, and without what is put to it.
            self.assertEqual((table.left(0, 40), table.left(1, 40)), (70, 100))

    def test_a_clock_of_parts(self):
        table = table_of(clock=Clock(2, base=5, kind=PARTS, plus=10, parts=2))
        for time, player, deed, left in [(7, 0, UP, 20), (14, 1, DOWN, 20), (24, 0, UP, 10)]:
            self.hears_done(table, player, deed, time)
            self.assertEqual(table.left(player, time), left)
        self.hears_done(table, 1, DOWN, 30)
        self.assertEqual(table.tick(60), [("fall", 40, 0)])

    def hears_done(self, table, player, deed, time):
        self.assertEqual(table.hear(letter_to(table, player, deed, stamp=time), time), "done")

    def test_left(self):
        table = table_of()
        table.hear(letter_to(table, 0, UP), 10)
        table.tick(500)
        # By the clock's own last time, not by the table's.
        self.assertEqual([table.left(0, 10), table.left(1, 10), table.left(player=1, time=400)], [990, 1000, 610])
        self.assertEqual(table.left(1, 10 ** 6), 0)
        for thing in [9, 0, *NO_TIMES]:
            self.refused(NoTime, "time", thing, table, lambda: table.left(0, thing))
        for thing in [*NO_NUMBERS, -1, 2]:
            self.refused(NoPlayer, "player", thing, table, lambda: table.left(thing, 10))
            self.refused(NoPlayer, "player", thing, table, lambda: table.left(thing, None))
        self.assertEqual(table_of(starts=None).left(1, 0), 1000)

    def test_left_behind_a_fall(self):
        table = table_of(clock=flat_clock(base=10))
        table.tick(50)
        self.assertEqual([table.left(0, 10), table.left(1, 10)], [0, 10])
        self.refused(NoTime, "time", 9, table, lambda: table.left(0, 9))


class Claims(Case):
    def pair(self, table, player=1, **parts):
        return [letter_to(table, player, deed, **parts) for deed in [EVEN, GIVE]]

    def claimed(self, table, one, other, time=5):
        ahead = whole(table)
        self.assertIs(table.claim(one, other, time), False)
        self.assertEqual(whole(table), ahead)

    def test_right_ones(self):
        for player in [0, 1]:
            for place in [1, 2, 60, 99]:
                for turned in [False, True]:
                    table = table_of()
                    one, other = sorted(self.pair(table, player, place=place), reverse=turned)
                    self.assertIs(table.claim(one=one, other=other, time=5), True)
                    self.assertEqual(table.entries(), [("open", 0), ("two", 5, one, other)])
                    self.assertEqual(table.catch(), (one, other))
                    self.assertEqual(table.world().points(), (0, 2) if player == 0 else (2, 0))
                    self.assertEqual((table.world().why(), table.clock().running()), ("two", None))
                    self.assertEqual(table.left(0, 5), 995)

    def test_whatever_else_is_wrong_with_them(self):
        table = table_of()
        one, other = self.pair(table, seen=99, ahead=5)
        self.assertIs(table.claim(one, other, 5), True)

    def test_of_one_that_stands(self):
        table = table_of()
        one, other = self.pair(table)
        table.hear(one, 1)
        self.assertIs(table.claim(other, one, 5), True)
        self.assertEqual(table.entries()[-1], ("two", 5, other, one))

    def test_forged(self):
        table = table_of()
        one, other = self.pair(table)
        for wrong in [(*other[:9], 5), letter_to(table, 1, GIVE, key="wrong"), letter_to(table, 1, GIVE, key=KEYS[0])]:
            self.claimed(table, one, wrong)
            self.claimed(table, wrong, one)
            self.claimed(table, wrong, (*wrong[:9], 6))

    def test_not_two(self):
        table = table_of()
        one, other = self.pair(table)
        self.claimed(table, one, one)
        self.claimed(table, one, letter_to(table, 1, GIVE, place=2))
        self.claimed(table, one, letter_to(table, 0, GIVE))
        self.claimed(table, one, letter_to(table, 1, GIVE, game="nym"))
        for thing in [*OTHERS, 0, list(other), (one, other)]:
            self.claimed(table, one, thing)
            self.claimed(table, thing, one)
            self.claimed(table, thing, thing)

    def test_of_another_game_or_no_player_of_it(self):
        table = table_of()
        self.claimed(table, *self.pair(table, game="nym"))
        for player in [2, 3]:
            self.claimed(table, *self.pair(table, player))

    def test_twice(self):
        table = table_of()
        one, other = self.pair(table)
        self.assertIs(table.claim(one, other, 5), True)
        self.claimed(table, one, other)
        self.claimed(table, other, one)
        self.claimed(table, *self.pair(table, 0))

    def test_behind_a_catch_that_was_heard(self):
        table = table_of()
        for letter in self.pair(table):
            table.hear(letter, 5)
        self.claimed(table, *self.pair(table, 0))

    def test_in_a_game_that_is_over(self):
        table = table_of()
        pair = self.pair(table)
        table.hear(letter_to(table, 0, GIVE), 2)
        ahead = table.entries(), table.world(), table.clock()
        self.assertIs(table.claim(*pair, 5), True)
        self.assertEqual((table.entries(), table.world(), table.clock()), ahead)
        self.assertEqual(table.catch(), tuple(pair))
        self.claimed(table, *self.pair(table, 0))

    def test_time_goes_on_by_it(self):
        table = table_of()
        self.claimed(table, None, None, 5)
        with self.assertRaises(NoTime):
            table.tick(4)


class Telling(Case):
    def played(self):
        table = table_of(take_rule(start=9))
        for time, player, deed in [
            (1, 0, ("move", "one")), (2, 0, ("move", "one")), (3, 1, EVEN), (4, 1, ("move", "two")),
            (5, 0, ("move", "two")),
            (6, 1, ("move", "two")), (7, 0, ("move", "one")), (8, 1, ("move", "one")),
        ]:
            table.hear(letter_to(table, player, deed), time)
        return table

    def test_mark(self):
        table = self.played()
        texts = ["9|0|0|-|-|-", "9|0|0|-|-|-", "8|1|1|-|-|-", "8|1|1|-|-|-", "8|1|1|1|-|-", "6|0|2|-|-|-",
                 "4|1|3|-|-|-",
                 "2|0|4|-|-|-", "1|1|5|-|-|-", "0|-|6|-|0,2|stuck"]
        self.assertEqual(len(table), 9)
        for n, text in enumerate(texts):
            self.assertEqual(table.mark(n), digest(f"{n} {text}"), n)
            self.assertEqual(table.mark(n=n), digest(f"{n} {text}"), n)

    def test_world(self):
        table = self.played()
        played = ["one", "two", "two", "two", "one", "one"]
        for n, many in enumerate([0, 0, 1, 1, 1, 2, 3, 4, 5, 6]):
            self.assertEqual(table.world(behind=n).played(), played[:many])
        self.assertEqual(table.world(behind=4).evens(), [1])
        self.assertEqual(table.world(), table.world(behind=9))
        self.assertEqual(table.world(), table.world(behind=None))
        with self.assertRaises(TypeError):
            table.world(3)

    def test_before_it_starts(self):
        table = table_of(starts=None)
        self.assertEqual(table.world(behind=0), World(long_rule()))
        self.assertEqual(table.mark(0), digest("0 0|0|0|-|-|-"))
        self.assertEqual(table.news(0), ("news", "nim", 0, (), table.mark(0)))
        self.refused(NoEntry, "number", 1, table, lambda: table.mark(1))

    def test_no_entry(self):
        table = self.played()
        for thing in [*NO_NUMBERS, -1, 10, 11, 10 ** 39]:
            self.refused(NoEntry, "number", thing, table, lambda: table.mark(thing))
            self.refused(NoEntry, "number", thing, table, lambda: table.news(thing))
            if thing is not None:
                self.refused(NoEntry, "number", thing, table, lambda: table.world(behind=thing))

    def test_news(self):
        table = self.played()
        entries = table.entries()
        for known in range(10):
            told = table.news(known=known)
            behind = min(9, known + 4)
            self.assertEqual(told, ("news", "nim", known, tuple(entries[known:behind]), table.mark(behind)))
            self.assertIs(type(told[3]), tuple)
        self.assertEqual([len(table.news(known)[3]) for known in range(10)], [4, 4, 4, 4, 4, 4, 3, 2, 1, 0])

    def test_next_place(self):
        table = self.played()
        self.assertEqual([table.next_place(0), table.next_place(player=1)], [5, 5])
        for thing in [*NO_NUMBERS, -1, 2, 10 ** 39]:
            self.refused(NoPlayer, "player", thing, table, lambda: table.next_place(thing))
        self.assertEqual([table_of(long_rule(players=4)).next_place(player) for player in range(4)], [1] * 4)

    def test_what_is_told_is_the_askers_own(self):
        table = self.played()
        ahead = whole(table)
        table.entries().clear()
        table.entries().append(None)
        table.tick(9).append(None)
        table.clock().fresh().begin(0, 0)
        clock, world = table.twin().clock(), table.world(behind=3)
        world.play("one")
        world.give(0)
        self.assertIsNone(clock.running())
        clock.begin(0, 50)
        self.assertEqual(whole(table), ahead)

    def test_twins_go_their_own_ways(self):
        table = table_of()
        world, clock = table.world(), table.clock()
        world.play("up")
        clock.press(5)
        self.assertEqual((table.world().played(), table.clock().running()), ([], 0))
        table.hear(letter_to(table, 0, UP), 7)
        self.assertEqual((world.played(), clock.running(), clock.falls()), (["up"], 1, 1005))
        self.assertEqual(table.clock().falls(), 1007)

    def test_what_only_tells_changes_nothing(self):
        table = self.played()
        ahead = whole(table)
        for _ in range(2):
            self.assertEqual(whole(table), ahead)

    def test_tick_told_again(self):
        table = table_of(clock=flat_clock(base=10))
        came = table.tick(10)
        came.append(None)
        came[0] = None
        self.assertEqual(table.entries(), [("open", 0), ("fall", 10, 0)])


class Digests(Case):
    def test_handed_nothing_but_texts(self):
        by = Digest()
        table = table_of(by=by)
        letters = row_of_letters(table, 0, [UP, EVEN, EVEN])
        for thing in [None, letters[2], letters[0], letters[1], letters[1], letter_to(table, 0, UP, place=2), GIVE]:
            table.hear(thing, 3)
        table.claim(letters[0], letters[1], 4)
        self.assertTrue(all([type(text) is str for text in by.asked]))

    def scenes(self, by):
        """Tables, each with the last time that it was told and a step that asks the digest."""
        fast = {"clock": flat_clock(base=10)}
        table = table_of(by=by)
        letters = row_of_letters(table, 1, [EVEN, UP, EVEN, EVEN, UP])
        for letter in letters[1:]:
            table.hear(letter, 2)
        yield table, 2, lambda table: table.hear(letters[0], 9)
        table = table_of(by=by, **fast)
        one, other = [letter_to(table, 0, deed) for deed in [EVEN, UP]]
        yield table.twin(), 0, lambda table: table.hear(one, 9)
        yield table.twin(), 0, lambda table: table.hear(one, 30)
        yield table.twin(), 0, lambda table: table.claim(one, other, 9)
        yield table.twin(), 0, lambda table: table.claim(one, other, 30)
        table.hear(one, 5)
        yield table.twin(), 5, lambda table: table.hear(other, 9)
        yield table.twin(), 5, lambda table: table.hear(other, 30)
        yield table.twin(), 5, lambda table: table.hear(one, 30)
        yield table.twin(), 5, lambda table: table.mark(1)
        yield table.twin(), 5, lambda table: table.news(1)

    def test_that_raise_at_any_asking(self):
        plain = Digest()
        many = len(list(self.scenes(plain)))
        for at in range(many):
            asking = 1
            while True:
                by = Digest()
                table, last, step = list(self.scenes(by))[at]
                twin = table.twin()
                by.fail_at(asking)
                try:
                    told = step(table)
                except DigestFails:
                    by.fails_at = None
                else:
                    by.fails_at = None
                    self.assertGreater(asking, 1)
                    self.assertEqual(told, step(twin))
                    self.same(table, twin)
                    break
                # All is as ahead: the entries, what waits, the catch, and the last time.
                self.same(table, twin)
                table.twin().tick(last)
                self.assertEqual(step(table), step(twin))
                self.same(table, twin)
                asking += 1


class Plain:
    """A table a second time, worked out from its entries again and again, as [51] tells it."""

    def __init__(self, rule, clock, keys):
        self.rule, self.fresh, self.keys = rule, clock, keys
        self.entries, self.waits, self.caught = [("open", 0)], [], None

    def replay(self, behind=None):
        world, clock = World(self.rule), self.fresh.fresh()
        for entry in self.entries[:behind]:
            word, time = entry[:2]
            if word == "open":
                if world.turn() is not None:
                    clock.begin(world.turn(), time)
            elif word == "deed":
                player, deed, stamp = entry[2][2], entry[2][7], entry[2][8]
                {"move": lambda: world.play(deed[1]), "give": lambda: world.give(player),
                 "even": lambda: world.even(player)}[deed[0]]()
                if world.points() is not None:
                    clock.stop(time)
                elif deed[0] == "move":
                    clock.press(time, late=time - stamp if time > stamp else 0)
            elif word in ("fall", "two"):
                world.give(entry[2] if word == "fall" else entry[2][2], why=word)
                clock.stop(time)
        return world, clock

    def mark(self, n):
        return digest(f"{n} {self.replay(n)[0].text()}")

    def own(self, player):
        return [entry[2] for entry in self.entries if entry[0] in ("deed", "void") and entry[2][2] == player]

    def tick(self, time):
        clock = self.replay()[1]
        if clock.falls() is not None and clock.falls() <= time:
            self.entries.append(("fall", clock.falls(), clock.running()))

    def hear(self, letter, time):
        self.tick(time)
        if not is_letter(letter) or letter[1] != "nim" or letter[2] >= len(self.keys):
            return "none"
        player, place = letter[2], letter[3]
        if not is_sealed(letter, self.keys[player], digest):
            return "forged"
        earlier = [one for one in self.own(player) + self.waits if one[2:4] == letter[2:4]]
        if letter in earlier:
            return "again"
        if earlier:
            if self.caught is None:
                self.caught = (earlier[0], letter)
                if self.replay()[0].points() is None:
                    self.entries.append(("two", time, earlier[0], letter))
            return "two"
        if self.replay()[0].points() is not None:
            return "over"
        beyond = place - len(self.own(player)) - 1
        if beyond > 0:
            if beyond <= 8:
                self.waits.append(letter)
            return "waits" if beyond <= 8 else "far"
        word = self.join(letter, time)
        found = True
        while found and word in ("done", "void"):
            place = len(self.own(player)) + 1
            found = [one for one in self.waits if one[2:4] == (player, place)]
            if found and self.replay()[0].points() is None:
                self.waits.remove(found[0])
                self.join(found[0], time)
            else:
                found = []
        return word

    def join(self, letter, time):
        player, seen, deed = letter[2], letter[5], letter[7]
        if letter[4] != ([0] + [one[9] for one in self.own(player)])[-1]:
            return "torn"
        if seen > len(self.entries) or letter[6] != self.mark(seen):
            return "drift"
        world = self.replay()[0]
        can = deed[0] != "move" or (world.turn() == player and deed[1] in world.allowed())
        self.entries.append(("deed" if can else "void", time, letter))
        return "done" if can else "void"


class Any(Case):
    """Any letters at any times: what the table tells is what [51] tells."""

    def test_any_letters(self):
        words = {}
        for seed in range(300):
            chance = random.Random(seed)
            players = chance.randint(2, 4)
            rule = chance.choice([take_rule(start=9, players=players, most=12), long_rule(players=players, most=12)])
            clock = chance.choice([
                flat_clock(players=players, base=60, credit=5), Clock(players, base=40, kind="grace", plus=4),
                Clock(players, base=30, kind="plus", plus=4, credit=9),
                Clock(players, base=10, kind=PARTS, plus=5, parts=4),
            ])
            table, plain = table_of(rule, clock), Plain(rule, clock, KEYS[:players])
            time, pool = 0, []
            many, over = 0, 0
            while many < 60 and over < 8:
                many += 1
                over += 1 if plain.replay()[0].points() is not None else 0
                time += chance.choice([0, 0, 0, 1, 2, 5])
                if not pool or chance.random() < 0.5:
                    pool.append(self.some_letter(chance, table, players, time))
                letter = chance.choice(pool[-6:])
                word = table.hear(letter, time)
                self.assertEqual(word, plain.hear(letter, time))
                words[word] = words.get(word, 0) + 1
                self.assertEqual(table.entries(), plain.entries)
                self.assertEqual(table.catch(), plain.caught)
                self.assertEqual((table.world(), table.clock()), plain.replay())
            for n in range(len(table) + 1):
                self.assertEqual((table.world(behind=n), table.mark(n)), (plain.replay(n)[0], plain.mark(n)))
            self.tells_true(table, players)
        self.assertEqual(len(words), 11, words)

    def some_letter(self, chance, table, players, time):
        player = chance.choice([table.world().turn() or 0, chance.randrange(players)])
        deed = chance.choice([("move", name) for name in ["one", "two", "up", "down"]] * 3 + [EVEN, EVEN, GIVE])
        allowed = table.world().allowed()
        if allowed and chance.random() < 0.6:
            deed = ("move", chance.choice(allowed))
        own = standing(table)[player]
        parts = {"stamp": max(0, time - chance.randint(0, 4))}
        roll = chance.random()
        if roll < 0.25:
            ahead = own[-1][9] if own else 0
            for _ in range(chance.randint(1, 3)):
                parts = {**parts, "place": parts.get("place", len(own) + 1) + 1}
                ahead = letter_to(table, player, deed, **{**parts, "place": parts["place"] - 1, "ahead": ahead})[9]
            parts["ahead"] = ahead
        elif roll < 0.5:
            seen = chance.randint(0, len(table))
            parts = {**parts, "seen": seen, "mark": table.mark(seen)}
        elif roll < 0.6:
            wrong = [{"seen": len(table) + 1}, {"mark": 5}, {"ahead": 5}, {"key": "wrong"}, {"game": "nym"},
                     {"place": 40}, {"place": max(1, len(own))}]
            parts = {**parts, **chance.choice(wrong)}
        return letter_to(table, player, deed, **parts)

    def tells_true(self, table, players):
        """[2] (c): each deed and void by a letter, sealed, in its place, behind its player's letter ahead."""
        for player in range(players):
            ahead = 0
            for at, letter in enumerate(standing(table)[player]):
                self.assertTrue(is_sealed(letter, KEYS[player], digest))
                self.assertEqual((letter[1:5]), ("nim", player, at + 1, ahead))
                ahead = letter[9]
        if table.catch() is not None:
            self.assertTrue(are_two(*table.catch()))


class Forging(Case):
    def test_a_letter_by_no_key_of_the_game_changes_nothing(self):
        table, twin = table_of(), table_of()
        for deed in [UP, GIVE, EVEN]:
            for place in [1, 2, 99]:
                letter = sealed("wrong", digest, game="nim", player=0, place=place, deed=deed, seen=1,
                                mark=table.mark(1))
                self.hears(table, letter, 0, "forged")
        self.same(table, twin)


if __name__ == "__main__":
    unittest.main()
