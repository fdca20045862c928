"""[62], [63]: nets, and [2] (a): whatever is late, lost, doubled or turned about, all come to all."""

import copy
import random
import unittest

from makers import KEYS, NO_NUMBERS, OTHERS, Digest, DigestFails, digest, flat_clock, letter_to, long_rule, take_rule
from playstead.clocks import Clock
from playstead.errors import Drift, NoDeed, NoPlace, NoTable, NoTime, NoWish, SteadError, TooMany
from playstead.letters import sealed
from playstead.nets import Net
from playstead.seats import Seat
from playstead.tables import Table
from playstead.worlds import World

UP, DOWN, GIVE, EVEN = ("move", "up"), ("move", "down"), ("give",), ("even",)


def parts_of(rule=None, clock=None, by=digest):
    """A table that hasn't started, and a seat for each player."""
    rule = long_rule() if rule is None else rule
    players = rule.told()[2]
    clock = flat_clock(players=players) if clock is None else clock
    table = Table("nim", rule, clock, KEYS[:players], by)
    return table, [Seat("nim", rule, clock, player, KEYS[player], by) for player in range(players)]


def net_of(rule=None, clock=None, by=digest):
    return Net(*parts_of(rule, clock, by))


def players_of(net):
    return net.table().clock().told()[0]


def whole(net):
    """All that a net tells, its table and its seats."""
    table = net.table()
    told = [net.now(), table.entries(), table.world(), table.clock(), table.catch()]
    for player in range(players_of(net)):
        seat = net.seat(player)
        told.append([seat.known(), seat.sure(), seat.clock(), seat.out(), seat.shown()])
        told.append([net.under(player, way) for way in ["up", "down"]])
    # A copy: what is told must be the asker's own, but that is to be tested.
    return copy.deepcopy(told)


class Case(unittest.TestCase):
    def refused(self, kind, field, thing, net, do):
        ahead = whole(net)
        with self.assertRaises(kind, msg=repr(thing)) as caught:
            do()
        if field is not None:
            self.assertEqual(repr(getattr(caught.exception, field)), repr(thing))
        self.assertEqual(whole(net), ahead)

    def lines(self, net, player, up, down):
        self.assertEqual((net.under(player, "up"), net.under(player, "down")), (up, down))

    def all_know_all(self, net):
        for player in range(players_of(net)):
            seat = net.seat(player)
            self.assertEqual(seat.known(), net.table().entries())
            self.assertEqual((seat.sure(), seat.clock()), (net.table().world(), net.table().clock()))

    def each_knows_a_beginning(self, net):
        table = net.table()
        for player in range(players_of(net)):
            seat = net.seat(player)
            many = len(seat.known())
            self.assertEqual(seat.known(), table.entries()[:many])
            self.assertEqual(seat.sure(), table.world(behind=many))
            for letter in seat.out():
                self.assertEqual(letter[6], table.mark(letter[5]))


class Made(Case):
    def test_it_plays_with_these_very_ones(self):
        table, seats = parts_of()
        net = Net(table=table, seats=seats)
        self.assertIs(net.table(), table)
        for player in range(2):
            self.assertIs(net.seat(player=player), seats[player])
        net.do(("wish", 0, UP))
        self.assertEqual(len(seats[0].out()), 1)
        self.assertGreater(net.settle(), 1)
        self.assertEqual(len(table), 2)
        self.assertEqual(seats[1].known(), table.entries())

    def test_at_the_beginning(self):
        for players in [2, 3, 4]:
            net = net_of(long_rule(players=players))
            self.assertEqual((net.now(), net.table().entries()), (0, [("open", 0)]))
            for player in range(players):
                self.lines(net, player, [], [])
                self.assertEqual((net.seat(player).known(), net.seat(player).out()), ([], []))

    def test_seats_as_a_tuple(self):
        table, seats = parts_of()
        Net(table, tuple(seats))

    def test_no_table(self):
        table, seats = parts_of()
        for thing in [*OTHERS, 0, "table", seats[0], [table], (table,), World(long_rule()), long_rule(), flat_clock(),
                      Net(*parts_of())]:
            with self.assertRaises(NoTable, msg=repr(thing)):
                Net(thing, seats)
        self.assertEqual(len(table), 0)

    def test_no_seats(self):
        table, seats = parts_of()
        third = Seat("nim", long_rule(players=3), flat_clock(players=3), 2, "k", digest)
        for thing in [
            *OTHERS, 0, "ab", seats[0], table, seats[:1], seats[::-1], [seats[0], seats[0]], [*seats, third],
            [seats[0], None], [None, seats[1]], [seats[0], table], [table, seats[1]], [table, table],
            [0, 1], ["a", "b"], {0: seats[0], 1: seats[1]}, [seats], [seats[0], [seats[1]]], [World(long_rule()), long_rule()],
        ]:
            with self.assertRaises(NoTable, msg=repr(thing)):
                Net(table, thing)
            self.assertEqual((len(table), len(seats)), (0, 2))
        Net(table, seats)

    def test_of_another_game(self):
        for player in [0, 1]:
            table, seats = parts_of()
            seats[player] = Seat("nym", long_rule(), flat_clock(), player, KEYS[player], digest)
            with self.assertRaises(NoTable):
                Net(table, seats)

    def test_a_table_that_has_started(self):
        table, seats = parts_of()
        table.starts(0)
        with self.assertRaises(NoTable):
            Net(table, seats)
        net = net_of()
        with self.assertRaises(NoTable):
            Net(net.table(), [net.seat(0), net.seat(1)])

    def test_seats_that_know_or_wished(self):
        for player in [0, 1]:
            table, seats = parts_of()
            other, _ = parts_of()
            other.starts(0)
            seats[player].hear(other.news(0))
            with self.assertRaises(NoTable):
                Net(table, seats)
            table, seats = parts_of()
            seats[player].wish(EVEN, 0)
            with self.assertRaises(NoTable):
                Net(table, seats)
            self.assertEqual(len(table), 0)

    def test_the_list_changed_behind(self):
        table, seats = parts_of()
        net = Net(table, seats)
        first = seats[0]
        seats.clear()
        self.assertIs(net.seat(0), first)
        net.do(("send", 0))
        self.assertEqual(net.settle(), 2)

    def test_a_game_that_is_over_at_the_beginning(self):
        net = net_of(take_rule(start=0))
        self.assertEqual(net.table().entries(), [("open", 0)])
        self.refused(NoWish, None, None, net, lambda: net.do(("wish", 0, GIVE)))
        self.assertEqual(net.settle(), 2)
        self.all_know_all(net)


class Deeds(Case):
    def test_wish(self):
        net = net_of()
        net.do(("tick", 7))
        letter = net.do(deed=("wish", 0, UP))
        self.assertEqual(letter, sealed(
            KEYS[0], digest, game="nim", player=0, place=1, deed=UP, seen=0, mark=net.table().mark(0), stamp=7,
        ))
        self.assertEqual(net.seat(0).out(), [letter])
        self.lines(net, 0, [], [])
        self.assertEqual(net.do(("wish", 1, EVEN))[2], 1)

    def test_wish_refused(self):
        net = net_of()
        for thing in [*OTHERS, 0, DOWN, "give", ["give"], ("move", "no")]:
            self.refused(NoWish, None, None, net, lambda: net.do(("wish", 0, thing)))
        self.refused(NoWish, None, None, net, lambda: net.do(("wish", 1, UP)))
        for deed in [UP, EVEN]:
            net.do(("wish", 0, deed))
        self.refused(TooMany, "most", 2, net, lambda: net.do(("wish", 0, GIVE)))
        self.refused(NoWish, None, None, net, lambda: net.do(("wish", 0, UP)))

    def test_send(self):
        net = net_of()
        letters = [net.do(("wish", 0, deed)) for deed in [UP, EVEN]]
        self.assertIsNone(net.do(("send", 0)))
        self.lines(net, 0, [*letters, ("ask", "nim", 0)], [])
        self.assertIsNone(net.do(("send", 1)))
        self.lines(net, 1, [("ask", "nim", 0)], [])
        net.do(("send", 0))
        self.lines(net, 0, [*letters, ("ask", "nim", 0)] * 2, [])
        self.assertEqual(net.seat(0).out(), letters)

    def test_send_without_room(self):
        net = net_of()
        letters = [net.do(("wish", 0, deed)) for deed in [UP, EVEN]]
        sent = [*letters, ("ask", "nim", 0)]
        for many in [3, 6, 8, 8]:
            net.do(("send", 0))
            self.lines(net, 0, (sent * 4)[:many], [])

    def test_up(self):
        net = net_of()
        letter = net.do(("wish", 0, UP))
        net.do(("send", 0))
        net.do(("send", 0))
        net.do(("tick", 5))
        self.assertIsNone(net.do(("up", 0, 1)))
        self.lines(net, 0, [letter, letter, ("ask", "nim", 0)],
                   [("news", "nim", 0, (("open", 0),), net.table().mark(1))])
        self.assertEqual(net.do(("up", 0, 1)), "done")
        self.assertEqual(net.table().entries(), [("open", 0), ("deed", 5, letter)])
        self.assertEqual(net.do(("up", 0, 0)), "again")
        self.assertIsNone(net.do(("up", 0, 0)))
        self.lines(net, 0, [], [("news", "nim", 0, (("open", 0),), net.table().mark(1)), net.table().news(0)])

    def test_up_tells_what_hear_tells(self):
        net = net_of()
        table = net.table()
        for letter, word in [
            (letter_to(table, 0, UP, game="nym"), "none"), (letter_to(table, 0, UP, key="wrong"), "forged"),
            (letter_to(table, 0, EVEN, place=9), "waits"), (letter_to(table, 0, EVEN, place=10), "far"),
            (letter_to(table, 0, EVEN, ahead=5), "torn"), (letter_to(table, 0, EVEN, seen=5), "drift"),
            (letter_to(table, 0, DOWN), "void"), (letter_to(table, 0, GIVE), "two"),
            (letter_to(table, 1, GIVE), "over"),
        ]:
            net.do(("forge", 1, letter))
            self.assertEqual(net.do(("up", 1, 0)), word)
            self.lines(net, 1, [], [])

    def test_down(self):
        net = net_of()
        for _ in range(2):
            net.do(("send", 0))
            net.do(("up", 0, 0))
        self.assertIs(net.do(("down", 0, 0)), True)
        self.lines(net, 0, [], [net.table().news(0)])
        self.assertIs(net.do(("down", 0, 0)), False)
        self.lines(net, 0, [], [])
        self.assertEqual(net.seat(0).known(), [("open", 0)])
        self.assertEqual(net.seat(1).known(), [])

    def test_answers_without_room(self):
        net = net_of()
        for many in range(10):
            net.do(("send", 0))
            self.assertIsNone(net.do(("up", 0, 0)))
            self.lines(net, 0, [], [net.table().news(0)] * min(8, many + 1))
            self.lines(net, 1, [], [])

    def test_lose(self):
        net = net_of()
        letters = [net.do(("wish", 0, deed)) for deed in [UP, EVEN]]
        net.do(("send", 0))
        self.assertIsNone(net.do(("lose", 0, "up", 1)))
        self.lines(net, 0, [letters[0], ("ask", "nim", 0)], [])
        net.do(("up", 0, 1))
        self.assertIsNone(net.do(("lose", 0, "down", 0)))
        self.lines(net, 0, [letters[0]], [])
        net.do(("lose", 0, "up", 0))
        self.lines(net, 0, [], [])
        self.assertEqual((len(net.table()), net.seat(0).known()), (1, []))

    def test_copy(self):
        net = net_of()
        letter = net.do(("wish", 0, UP))
        ask = ("ask", "nim", 0)
        net.do(("send", 0))
        self.assertIsNone(net.do(("copy", 0, "up", 0)))
        self.lines(net, 0, [letter, ask, letter], [])
        net.do(("copy", 0, "up", 1))
        self.lines(net, 0, [letter, ask, letter, ask], [])
        net.do(("up", 0, 1))
        net.do(("copy", 0, "down", 0))
        self.lines(net, 0, [letter, letter, ask], [net.table().news(0)] * 2)

    def test_copy_without_room(self):
        net = net_of()
        net.do(("send", 0))
        for way in ["up", "down"]:
            for many in range(12):
                self.assertIsNone(net.do(("copy", 0, way, 0)))
                self.assertEqual(len(net.under(0, way)), min(8, many + 2))
            while way == "up" and net.under(0, "up"):
                net.do(("up", 0, 0))
            if way == "up":
                self.assertEqual(len(net.under(0, "down")), 8)
                for _ in range(7):
                    net.do(("lose", 0, "down", 0))

    def test_forge(self):
        net = net_of()
        letters = [
            sealed("wrong", digest, game="any", player=3, place=99, deed=GIVE), letter_to(net.table(), 1, GIVE),
            ("letter", "nim", 0, 1, 0, 0, 0, UP, 0, 0),
        ]
        for letter in letters:
            self.assertIsNone(net.do(("forge", 0, letter)))
        self.lines(net, 0, letters, [])
        for _ in range(9):
            self.assertIsNone(net.do(("forge", 0, letters[0])))
        self.lines(net, 0, (letters + [letters[0]] * 5), [])
        self.assertEqual([net.do(("up", 0, 0)) for _ in range(3)], ["none", "done", "forged"])

    def test_tick(self):
        net = net_of(clock=flat_clock(base=10))
        self.assertEqual(net.do(("tick", 1)), [])
        self.assertEqual(net.now(), 1)
        self.assertEqual(net.do(("tick", 8)), [])
        self.assertEqual(net.do(("tick", 1000)), [("fall", 10, 0)])
        self.assertEqual(net.now(), 1009)
        self.assertEqual(net.do(("tick", 1)), [])
        self.assertEqual(net.table().entries(), [("open", 0), ("fall", 10, 0)])

    def test_time_of_what_arrives(self):
        net = net_of(clock=flat_clock(base=100, credit=30))
        net.do(("tick", 3))
        letter = net.do(("wish", 0, UP))
        net.do(("send", 0))
        net.do(("tick", 9))
        self.assertEqual(net.do(("up", 0, 0)), "done")
        self.assertEqual(net.table().entries()[-1], ("deed", 12, letter))
        self.assertEqual(net.table().left(0, 12), 97)


class Refused(Case):
    def begun(self):
        net = net_of()
        net.do(("wish", 0, UP))
        net.do(("send", 0))
        net.do(("send", 1))
        net.do(("up", 1, 0))
        return net

    def test_no_deed(self):
        net = self.begun()
        letter = net.seat(0).out()[0]
        right = [
            ("wish", 0, EVEN), ("send", 0), ("up", 0, 0), ("down", 1, 0), ("lose", 0, "up", 0), ("copy", 0, "up", 0),
            ("forge", 0, letter), ("tick", 5),
        ]
        wrong = [*OTHERS, 0, 5, "send", "tick", ("settle",), ("hear", 0, 0), ("wishes", 0, EVEN), letter, ("tick",),
                 ("send",)]
        for deed in right:
            wrong += [list(deed), deed[:-1], (*deed, 0), (*deed, None), (deed,), (None, *deed[1:]),
                      ([deed[0]], *deed[1:]),
                      (deed[0].upper(), *deed[1:]), ({}, *deed[1:]), (0, *deed[1:])]
            if deed[0] != "tick":
                wrong += [(deed[0], thing, *deed[2:]) for thing in [*NO_NUMBERS, -1, 2, 3, 10 ** 39]]
            if deed[0] in ("lose", "copy"):
                wrong += [(*deed[:2], thing, 0) for thing in [*NO_NUMBERS, 0, "Up", "left", ["up"], ("up",), {"up": 1}]]
        wrong += [("tick", thing) for thing in [*NO_NUMBERS, 0, -1, 1001, 10 ** 39]]
        wrong += [("forge", 0, thing) for thing in [*OTHERS, 0, list(letter), letter[:9], (letter,), ("ask", "nim", 0)]]
        for deed in wrong:
            self.refused(NoDeed, "at", 0, net, lambda: net.do(deed))
        for deed in right:
            self.begun().do(deed)
        for n in [1, 1000]:
            net.do(("tick", n))

    def test_no_player_comes_ahead_of_no_place(self):
        net = self.begun()
        for deed in [("up", 2, 99), ("down", -1, None), ("lose", 2, "up", 99), ("lose", 0, "left", 99),
                     ("copy", True, "up", 99)]:
            self.refused(NoDeed, "at", 0, net, lambda: net.do(deed))

    def test_no_place(self):
        net = self.begun()
        for thing in [*NO_NUMBERS, -1, -2, 2, 3, 8, 10 ** 39]:
            for deed in [("up", 0, thing), ("lose", 0, "up", thing), ("copy", 0, "up", thing)]:
                self.refused(NoPlace, "at", thing, net, lambda: net.do(deed))
        for thing in [*NO_NUMBERS, -1, 0, 1]:
            for deed in [("up", 1, thing), ("down", 0, thing), ("lose", 1, "up", thing), ("copy", 0, "down", thing)]:
                self.refused(NoPlace, "at", thing, net, lambda: net.do(deed))
        for deed in [("down", 1, 1), ("lose", 1, "down", 1), ("copy", 1, "down", 1)]:
            self.refused(NoPlace, "at", 1, net, lambda: net.do(deed))
        net.do(("up", 0, 1))
        net.do(("down", 1, 0))
        self.refused(NoPlace, "at", 0, net, lambda: net.do(("down", 1, 0)))

    def test_what_is_refused_on_its_arrival_stays_under_way(self):
        net = self.begun()
        # The table was told a later time than the net's.
        net.table().tick(50)
        self.refused(NoTime, "time", 0, net, lambda: net.do(("up", 0, 0)))
        self.refused(NoTime, "time", 9, net, lambda: net.do(("tick", 9)))
        self.refused(NoTime, "time", 0, net, net.settle)
        self.assertEqual(len(net.under(0, "up")), 2)
        self.assertIsNone(net.do(("up", 0, 1)))
        self.assertEqual(net.do(("tick", 50)), [])
        self.assertEqual((net.now(), net.do(("up", 0, 0))), (50, "done"))

    def test_news_that_are_refused_stay_under_way(self):
        table, seats = parts_of()
        seats[1] = Seat("nim", long_rule(), flat_clock(), 1, KEYS[1], lambda text: 5)
        net = Net(table, seats)
        net.do(("send", 1))
        net.do(("up", 1, 0))
        self.refused(Drift, "number", 1, net, lambda: net.do(("down", 1, 0)))
        self.refused(Drift, "number", 1, net, net.settle)
        self.lines(net, 1, [], [table.news(0)])

    def test_a_digest_that_raises(self):
        steps = [("wish", 0, EVEN), ("up", 0, 0), ("up", 0, 1), ("down", 1, 0), "settle"]
        for step in steps:
            asking = 1
            while True:
                by = Digest()
                net = net_of(by=by)
                net.do(("wish", 0, UP))
                for player in [0, 1]:
                    net.do(("send", player))
                net.do(("up", 1, 0))
                ahead = whole(net)
                by.fail_at(asking)
                try:
                    told = net.settle() if step == "settle" else net.do(step)
                except DigestFails:
                    by.fails_at = None
                    self.assertEqual(whole(net), ahead)
                    asking += 1
                else:
                    by.fails_at = None
                    self.assertIsNotNone(told if step != ("up", 0, 1) else 0)
                    break
            self.assertGreater(asking, 1, step)


class Told(Case):
    def test_what_is_told_is_the_askers_own(self):
        net = net_of(clock=flat_clock(base=10))
        net.do(("send", 0))
        ahead = whole(net)
        net.under(0, "up").clear()
        net.under(player=0, way="down").append(None)
        self.assertEqual(whole(net), ahead)
        came = net.do(("tick", 10))
        came.clear()
        self.assertEqual(net.table().entries(), [("open", 0), ("fall", 10, 0)])

    def test_what_only_tells_changes_nothing(self):
        net = net_of()
        net.do(("wish", 0, UP))
        ahead = whole(net)
        self.assertEqual(whole(net), ahead)

    def test_letters_heard_at_the_table(self):
        net = net_of()
        self.assertEqual(net.table().hear(letter_to(net.table(), 0, UP), 0), "done")
        net.settle()
        self.all_know_all(net)
        self.assertEqual(net.seat(0).known()[-1][0], "deed")
        self.assertEqual(net.do(("wish", 0, EVEN))[3], 2)


class Settled(Case):
    def test_the_number_of_rounds(self):
        net = net_of()
        # One in which each comes to know the first entry, one in which nothing comes.
        self.assertEqual(net.settle(), 2)
        self.assertEqual(net.settle(), 1)
        net.do(("wish", 0, UP))
        self.assertEqual(net.settle(), 2)
        self.assertEqual(net.seat(0).out(), [])
        # A letter of the last seat is known to the first only a round later.
        net.do(("wish", 1, DOWN))
        self.assertEqual(net.settle(), 3)
        self.assertEqual(net.settle(), 1)
        self.all_know_all(net)

    def test_four_entries_an_answer(self):
        for many, rounds in [(0, 2), (3, 2), (4, 3), (7, 3), (8, 4)]:
            net = net_of(take_rule(start=9))
            for k in range(many):
                net.table().hear(letter_to(net.table(), k % 2, ("move", "one")), 0)
            self.assertEqual(len(net.table()), many + 1)
            self.assertEqual(net.settle(), rounds, many)
            self.all_know_all(net)

    def test_a_letter_that_its_seat_did_not_wish(self):
        net = net_of()
        net.settle()
        letter = letter_to(net.table(), 1, EVEN)
        net.do(("forge", 1, letter))
        before = len(net.table())
        self.assertEqual(net.settle(), 3)
        self.assertEqual(len(net.table()), before + 1)
        self.all_know_all(net)

    def test_the_order_in_a_round(self):
        # A seat sends behind what came down to it: it asks for what it doesn't know yet.
        net = net_of(take_rule(start=9))
        for k in range(7):
            net.table().hear(letter_to(net.table(), k % 2, ("move", "one")), 0)
        for player in [0, 1]:
            net.do(("send", player))
            net.do(("up", player, 0))
        # Four entries are under way to each: these and four more in the first round.
        self.assertEqual(net.settle(), 2)
        self.all_know_all(net)

    def test_a_round_in_which_only_what_was_under_way_is_new(self):
        net = net_of()
        for player in [0, 1]:
            net.do(("send", player))
            net.do(("up", player, 0))
        self.assertEqual(net.settle(), 2)
        self.all_know_all(net)

    def test_what_is_under_way_up_comes_first(self):
        net = net_of(take_rule(start=9))
        for k in range(7):
            net.table().hear(letter_to(net.table(), k % 2, ("move", "one")), 0)
        for player in [0, 1]:
            net.do(("send", player))
        self.assertEqual(net.settle(), 2)
        self.all_know_all(net)

    def test_nothing_is_under_way_behind_it(self):
        net = net_of()
        for player in [0, 1]:
            for _ in range(9):
                net.do(("send", player))
            for _ in range(3):
                net.do(("up", player, 0))
        net.settle()
        for player in [0, 1]:
            self.lines(net, player, [], [])

    def test_forged_ones_do_no_harm(self):
        net = net_of()
        for _ in range(8):
            net.do(("forge", 0, letter_to(net.table(), 1, GIVE, key="wrong")))
        self.assertEqual(net.settle(), 2)
        self.assertEqual(net.table().entries(), [("open", 0)])
        self.all_know_all(net)


class Any(Case):
    def test_whatever_is_done(self):
        ended = {}
        for seed in range(80):
            chance = random.Random(seed)
            players = chance.randint(2, 4)
            rule = chance.choice([take_rule(start=9, players=players, most=30), long_rule(players=players, most=9)])
            clock = chance.choice([
                flat_clock(players=players, base=200, credit=20),
                Clock(players, base=60, kind="parts", plus=9, parts=5, credit=9),
                Clock(players, base=90, kind="plus", plus=3),
            ])
            net = net_of(rule, clock)
            clocks = {}
            for _ in range(chance.choice([30, 120])):
                self.some_deed(chance, net, players)
                self.each_knows_a_beginning(net)
                clocks[len(net.table())] = net.table().clock()
                for player in range(players):
                    seat = net.seat(player)
                    self.assertEqual(seat.clock(), clocks.get(len(seat.known()), seat.clock()))
            self.each_shows_a_guess(net, players)
            rounds = net.settle()
            self.all_know_all(net)
            self.assertGreaterEqual(rounds, 1)
            self.assertEqual(net.settle(), 1)
            why = net.table().world().why()
            ended[why] = ended.get(why, 0) + 1
        self.assertGreater(len(ended), 3, ended)

    def some_deed(self, chance, net, players):
        player, way = chance.randrange(players), chance.choice(["up", "down"])
        lines = {way: net.under(player, way) for way in ["up", "down"]}
        at = chance.randrange(len(lines[way]) + 1)
        allowed = net.seat(player).shown().allowed()
        wished = ("move", chance.choice(allowed)) if allowed and chance.random() < 0.95 else chance.choice([EVEN, GIVE])
        deed = chance.choice([
            ("wish", player, wished), ("send", player), (way, player, 0), (way, player, at), (way, player, at),
            ("lose", player, way, at), ("copy", player, way, at), ("tick", chance.randint(1, 6)),
        ])
        if chance.random() < 0.02:
            key = chance.choice([KEYS[player], "wrong", "wrong"])
            deed = ("forge", chance.randrange(players), letter_to(net.table(), player, chance.choice([EVEN, UP]),
                                                                  key=key))
        ahead = whole(net)
        try:
            net.do(deed)
        except (NoPlace, NoWish, TooMany):
            self.assertEqual(whole(net), ahead)
        except SteadError as refusal:
            self.fail(f"{deed} was refused by {refusal!r}")

    def each_shows_a_guess(self, net, players):
        """What it shows beyond what is sure is a guess of its own deeds alone."""
        for player in range(players):
            seat = net.seat(player)
            world = seat.sure()
            for letter in seat.out():
                self.assertEqual(letter[2], player)
                deed = letter[7]
                if world.why() is not None or deed[0] == "move" and (
                    world.turn() != player or deed[1] not in world.allowed()
                ):
                    break
                if deed[0] == "move":
                    world.play(deed[1])
                elif deed[0] == "give":
                    world.give(player)
                else:
                    world.even(player)
            self.assertEqual(seat.shown(), world)


if __name__ == "__main__":
    unittest.main()
