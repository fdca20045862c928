"""[30], [31], [32]: clocks."""

import random
import unittest

from makers import NO_NUMBERS, NO_TIMES
from playstead.clocks import FLAT, GRACE, PARTS, PLUS, Clock
from playstead.errors import Fallen, NoClock, NoPlayer, NoTime

KINDS = [FLAT, PLUS, GRACE, PARTS]


def lefts(clock, time):
    return [clock.left(player, time) for player in range(clock.told()[0])]


class Case(unittest.TestCase):
    def refused(self, kind, field, thing, clock, do):
        ahead = clock.twin()
        with self.assertRaises(kind, msg=repr(thing)) as caught:
            do()
        self.assertEqual(repr(getattr(caught.exception, field)), repr(thing))
        self.assertEqual(clock, ahead)


class Made(Case):
    def test_constants(self):
        self.assertEqual((FLAT, PLUS, GRACE, PARTS), ("flat", "plus", "grace", "parts"))

    def test_told(self):
        self.assertEqual(Clock(2, base=60).told(), (2, 60, "flat", 0, 0, 0))
        clock = Clock(3, base=70, kind=PARTS, plus=4, parts=5, credit=6)
        self.assertEqual(clock.told(), (3, 70, "parts", 4, 5, 6))
        self.assertIs(type(clock.told()), tuple)
        self.assertEqual(Clock(players=2, credit=1, parts=2, plus=3, kind=GRACE, base=4).told(),
                         (2, 4, "grace", 3, 2, 1))

    def test_behind_the_star_by_name_alone(self):
        with self.assertRaises(TypeError):
            Clock(2, 60)
        with self.assertRaises(TypeError):
            Clock(2)

    def test_each_part_at_its_bounds(self):
        right = {"players": 2, "base": 60, "plus": 5, "parts": 2, "credit": 3}
        bounds = {"players": (2, 4), "base": (1, 10000), "plus": (0, 1000), "parts": (0, 5), "credit": (0, 1000)}
        for kind in KINDS:
            for part in bounds:
                low, high = bounds[part]
                if kind == PARTS and part == "plus":
                    low = 1
                for number in [low, high]:
                    told = Clock(**{**right, "kind": kind, part: number}).told()
                    self.assertEqual(told[["players", "base", "kind", "plus", "parts", "credit"].index(part)], number)
                for thing in [low - 1, high + 1, -(10 ** 39), 10 ** 39, *NO_NUMBERS]:
                    with self.assertRaises(NoClock, msg=(part, thing)):
                        Clock(**{**right, "kind": kind, part: thing})

    def test_parts_with_plus_nought(self):
        for parts in [0, 5]:
            with self.assertRaises(NoClock):
                Clock(2, base=60, kind=PARTS, parts=parts)
            with self.assertRaises(NoClock):
                Clock(2, base=60, kind=PARTS, plus=0, parts=parts)
            self.assertEqual(Clock(2, base=60, kind=PARTS, plus=1, parts=parts).told()[4], parts)

    def test_kinds(self):
        for thing in [*NO_NUMBERS, 0, "Flat", "flat ", ["flat"], ("flat",), {"flat": 1}]:
            with self.assertRaises(NoClock):
                Clock(2, base=60, kind=thing, plus=1)

    def test_at_the_beginning(self):
        clock = Clock(3, base=60, kind=PARTS, plus=10, parts=2)
        self.assertIsNone(clock.running())
        self.assertIsNone(clock.falls())
        self.assertEqual(lefts(clock, 0), [80, 80, 80])
        self.assertEqual(lefts(clock, 10 ** 6), [80, 80, 80])


class Steps(Case):
    def test_begin(self):
        for player in range(4):
            clock = Clock(4, base=60)
            self.assertIsNone(clock.begin(player, 7))
            self.assertEqual((clock.running(), clock.falls()), (player, 67))
        clock = Clock(2, base=60)
        clock.begin(time=0, player=1)
        self.assertEqual((clock.running(), clock.falls()), (1, 60))

    def test_press_hands_on(self):
        for players in [2, 3, 4]:
            clock = Clock(players, base=100)
            clock.begin(1, 0)
            for many in range(2 * players):
                self.assertEqual(clock.running(), (1 + many) % players)
                self.assertIsNone(clock.press(many + 1))
                self.assertEqual(clock.running(), (2 + many) % players)

    def test_no_player(self):
        for players in [2, 3, 4]:
            clock = Clock(players, base=60)
            for thing in [*NO_NUMBERS, -1, players, 10 ** 39]:
                self.refused(NoPlayer, "player", thing, clock, lambda: clock.begin(thing, 0))
                self.refused(NoPlayer, "player", thing, clock, lambda: clock.begin(thing, None))
                self.refused(NoPlayer, "player", thing, clock, lambda: clock.left(thing, 0))
                self.refused(NoPlayer, "player", thing, clock, lambda: clock.left(thing, -1))

    def test_no_time(self):
        for thing in NO_TIMES:
            clock = Clock(2, base=60)
            self.refused(NoTime, "time", thing, clock, lambda: clock.begin(0, thing))
            self.refused(NoTime, "time", thing, clock, lambda: clock.left(0, thing))
            self.refused(NoTime, "time", thing, clock, lambda: clock.press(thing))
            self.refused(NoTime, "time", thing, clock, lambda: clock.stop(thing))
            clock.begin(0, 0)
            self.refused(NoTime, "time", thing, clock, lambda: clock.left(1, thing))
            self.refused(NoTime, "time", thing, clock, lambda: clock.press(thing))
            self.refused(NoTime, "time", thing, clock, lambda: clock.stop(thing))

    def test_ahead_of_the_last(self):
        clock = Clock(2, base=60)
        clock.begin(0, 5)
        for step in [lambda: clock.press(4), lambda: clock.stop(4), lambda: clock.left(0, 4), lambda: clock.left(1, 4)]:
            self.refused(NoTime, "time", 4, clock, step)
        clock.press(9)
        for step in [lambda: clock.press(8), lambda: clock.stop(8), lambda: clock.left(0, 8)]:
            self.refused(NoTime, "time", 8, clock, step)
        clock.stop(12)
        for step in [lambda: clock.begin(0, 11), lambda: clock.left(0, 11)]:
            self.refused(NoTime, "time", 11, clock, step)
        clock.begin(0, 12)
        clock.press(12)
        clock.stop(12)
        self.assertEqual(lefts(clock, 12), [56, 57])

    def test_where_somebody_runs_or_nobody(self):
        clock = Clock(2, base=60)
        self.refused(NoTime, "time", 3, clock, lambda: clock.press(3))
        self.refused(NoTime, "time", 3, clock, lambda: clock.stop(3))
        clock.begin(0, 3)
        for player in [0, 1]:
            self.refused(NoTime, "time", 9, clock, lambda: clock.begin(player, 9))
        clock.stop(9)
        self.refused(NoTime, "time", 9, clock, lambda: clock.press(9))
        self.refused(NoTime, "time", 9, clock, lambda: clock.stop(9))

    def test_what_is_refused_tells_no_time(self):
        clock = Clock(2, base=60)
        self.refused(NoTime, "time", 50, clock, lambda: clock.press(50))
        self.refused(NoTime, "time", 50, clock, lambda: clock.stop(50))
        clock.left(0, 50)
        clock.begin(0, 2)
        self.refused(NoTime, "time", 50, clock, lambda: clock.begin(1, 50))
        self.refused(Fallen, "player", 0, clock, lambda: clock.press(99))
        clock.left(0, 99)
        clock.press(3)
        self.assertEqual(lefts(clock, 3), [59, 60])

    def test_begin_again(self):
        clock = Clock(2, base=60)
        clock.begin(0, 0)
        clock.stop(10)
        clock.begin(0, 40)
        self.assertEqual((clock.falls(), lefts(clock, 45)), (90, [45, 60]))

    def test_times_by_name(self):
        clock = Clock(2, base=60, credit=5)
        clock.begin(0, 0)
        clock.press(time=10, late=2)
        self.assertEqual(clock.left(time=10, player=0), 52)
        clock.stop(time=11)
        self.assertEqual(lefts(clock, 11), [52, 59])
        clock.begin(0, 11)
        with self.assertRaises(TypeError):
            clock.press(12, 1)


class Kinds(Case):
    def press_at(self, used, late=0, **parts):
        clock = Clock(2, **{"base": 60, **parts})
        clock.begin(0, 100)
        clock.press(100 + used, late=late)
        return clock

    def test_flat(self):
        for used in [0, 1, 30, 59]:
            self.assertEqual(lefts(self.press_at(used, plus=7, parts=3), 200), [60 - used, max(0, 60 - 100 + used)])

    def test_plus(self):
        for used in [0, 1, 7, 59]:
            clock = self.press_at(used, kind=PLUS, plus=7)
            self.assertEqual(clock.left(0, 100 + used), 67 - used)
            self.assertEqual(clock.left(1, 100 + used), 60)
            clock.press(100 + used)
            self.assertEqual(clock.left(1, 100 + used), 67)

    def test_grace(self):
        for used, left in [(0, 60), (6, 60), (7, 60), (8, 59), (66, 1)]:
            clock = self.press_at(used, kind=GRACE, plus=7)
            self.assertEqual(clock.left(0, 100 + used), left)
        clock = Clock(2, base=60, kind=GRACE, plus=7)
        clock.begin(0, 100)
        self.assertEqual([clock.left(0, 100 + k) for k in [0, 6, 7, 8, 20, 66, 67, 99]], [60, 60, 60, 59, 47, 1, 0, 0])

    def test_parts(self):
        # base 60 and 3 parts of 10: 90 in all.
        for used, left, parts in [
            (0, 60, 3), (59, 1, 3), (60, 0, 3), (61, 0, 3), (69, 0, 3), (70, 0, 2), (79, 0, 2), (80, 0, 1), (89, 0, 1),
        ]:
            clock = self.press_at(used, kind=PARTS, plus=10, parts=3)
            self.assertEqual(clock.left(0, 100 + used), left + parts * 10, used)
            self.assertEqual(clock.left(1, 100 + used), 90)
        clock = Clock(2, base=60, kind=PARTS, plus=10, parts=3)
        clock.begin(0, 100)
        self.assertEqual([clock.left(0, 100 + k) for k in [0, 59, 60, 61, 70, 89, 90, 91]],
                         [90, 31, 30, 29, 20, 1, 0, 0])

    def test_parts_move_by_move(self):
        clock = Clock(2, base=5, kind=PARTS, plus=10, parts=2)
        told, time = [], 0
        clock.begin(0, 0)
        for used in [5, 9, 9, 10, 9]:
            time += used
            clock.press(time)
            told.append(clock.left(0, time))
            clock.press(time)
        self.assertEqual(told, [20, 20, 20, 10, 10])
        self.assertEqual(clock.falls(), time + 10)

    def test_parts_without_any(self):
        clock = Clock(2, base=5, kind=PARTS, plus=10, parts=0)
        clock.begin(0, 0)
        self.assertEqual((clock.falls(), clock.left(0, 4), clock.left(0, 5)), (5, 1, 0))

    def test_other_kinds_have_no_parts(self):
        for kind in [FLAT, PLUS, GRACE]:
            clock = Clock(2, base=5, kind=kind, plus=10, parts=5)
            self.assertEqual(lefts(clock, 0), [5, 5])
            clock.begin(0, 0)
            self.assertEqual(clock.falls(), 15 if kind == GRACE else 5)


class Falls(Case):
    def clocks(self):
        return [
            (Clock(2, base=20), 20), (Clock(2, base=20, kind=PLUS, plus=9), 20),
            (Clock(2, base=20, kind=GRACE, plus=9), 29), (Clock(2, base=20, kind=GRACE), 20),
            (Clock(2, base=20, kind=PARTS, plus=9, parts=2), 38), (Clock(2, base=1), 1),
        ]

    def test_a_tick_ahead_at_it_and_behind_it(self):
        for clock, long in self.clocks():
            clock.begin(0, 50)
            self.assertEqual(clock.falls(), 50 + long)
            self.assertEqual([clock.left(0, 50 + long + k) for k in [-1, 0, 1, 1000]], [1, 0, 0, 0])
            for k in [0, 1, 1000]:
                self.refused(Fallen, "player", 0, clock, lambda: clock.press(50 + long + k))
                self.refused(Fallen, "player", 0, clock, lambda: clock.press(50 + long + k, late=10 ** 6))
            self.assertEqual(clock.running(), 0)
            clock.press(50 + long - 1)
            self.assertEqual(clock.running(), 1)
            self.assertEqual(clock.falls(), 50 + long - 1 + long)

    def test_credit_saves_nobody(self):
        clock = Clock(2, base=20, credit=1000)
        clock.begin(1, 0)
        self.refused(Fallen, "player", 1, clock, lambda: clock.press(20, late=20))

    def test_who_falls(self):
        clock = Clock(4, base=20)
        clock.begin(2, 0)
        clock.press(5)
        self.refused(Fallen, "player", 3, clock, lambda: clock.press(25))

    def test_with_nothing_left_at_once(self):
        for kind in KINDS:
            clock = Clock(2, base=20, kind=kind, plus=9)
            clock.begin(0, 0)
            clock.stop(500)
            self.assertEqual(clock.left(0, 500), 0)
            clock.begin(0, 600)
            self.assertEqual((clock.falls(), clock.left(0, 600)), (600, 0), kind)
            self.refused(Fallen, "player", 0, clock, lambda: clock.press(600))

    def test_falls_at_the_first_time_with_nothing_left(self):
        chance = random.Random(30)
        for _ in range(300):
            clock = chance_clock(chance)
            time = chance.randint(0, 5)
            clock.begin(0, time)
            for _ in range(12):
                falls = clock.falls()
                first = time
                while clock.left(clock.running(), first) > 0:
                    first += 1
                self.assertEqual(falls, first)
                time += chance.randint(0, 8)
                if time >= falls:
                    self.refused(Fallen, "player", clock.running(), clock, lambda: clock.press(time))
                    break
                clock.press(time, late=chance.randint(0, 3))


def chance_clock(chance):
    kind = chance.choice(KINDS)
    plus = chance.randint(1 if kind == PARTS else 0, 6)
    parts = chance.randint(0, 5)
    return Clock(chance.randint(2, 4), base=chance.randint(1, 20), kind=kind, plus=plus, parts=parts,
                 credit=chance.randint(0, 9))


class Late(Case):
    def after(self, used, lates, **parts):
        clock = Clock(2, **{"base": 60, "credit": 10, **parts})
        time = 0
        clock.begin(0, 0)
        told = []
        for late in lates:
            time += used
            clock.press(time, late=late)
            told.append(clock.left(0, time))
            clock.press(time)
        return told

    def test_without_credit(self):
        self.assertEqual(self.after(8, [5, 100], credit=0), [52, 44])

    def test_as_much_as_the_credit_has(self):
        self.assertEqual(self.after(8, [0, 4, 4, 4, 4]), [52, 48, 44, 38, 30])

    def test_none_where_none_is_told(self):
        clock = Clock(2, base=60, credit=10)
        clock.begin(0, 0)
        clock.press(8)
        self.assertEqual(clock.left(0, 8), 52)

    def test_at_most_what_was_used(self):
        self.assertEqual(self.after(4, [9, 9, 9, 9]), [60, 60, 58, 54])

    def test_each_player_has_its_own(self):
        clock = Clock(2, base=60, credit=10)
        clock.begin(0, 0)
        clock.press(10, late=10)
        clock.press(20, late=10)
        self.assertEqual(lefts(clock, 20), [60, 60])
        clock.press(30, late=10)
        clock.press(40, late=10)
        self.assertEqual(lefts(clock, 40), [50, 50])

    def test_of_each_kind(self):
        self.assertEqual(self.after(8, [5], kind=PLUS, plus=3), [60])
        self.assertEqual(self.after(8, [5], kind=GRACE, plus=3), [60])
        self.assertEqual(self.after(8, [4], kind=GRACE, plus=3), [59])
        self.assertEqual(self.after(8, [5], kind=PARTS, plus=3, parts=1), [60])
        self.assertEqual(self.after(63, [2], kind=PARTS, plus=3, parts=2), [6])
        self.assertEqual(self.after(63, [0], kind=PARTS, plus=3, parts=2), [3])

    def test_left_knows_nothing_of_it(self):
        clock = Clock(2, base=60, credit=10)
        clock.begin(0, 0)
        self.assertEqual(clock.left(0, 20), 40)
        self.assertEqual(clock.falls(), 60)


class Stops(Case):
    def stopped(self, used, **parts):
        clock = Clock(2, **{"base": 60, **parts})
        clock.begin(0, 0)
        self.assertIsNone(clock.stop(used))
        self.assertIsNone(clock.running())
        self.assertIsNone(clock.falls())
        self.assertEqual(clock.left(1, used + 500), clock.left(1, used))
        return clock.left(0, used + 500)

    def test_flat(self):
        self.assertEqual([self.stopped(used) for used in [0, 10, 59, 60, 61, 5000]], [60, 50, 1, 0, 0, 0])

    def test_plus_puts_nothing_to_it(self):
        self.assertEqual([self.stopped(used, kind=PLUS, plus=5) for used in [0, 10, 60, 61]], [60, 50, 0, 0])

    def test_grace(self):
        self.assertEqual([self.stopped(used, kind=GRACE, plus=5) for used in [0, 5, 6, 65, 66]], [60, 60, 59, 0, 0])

    def test_parts(self):
        told = [self.stopped(used, kind=PARTS, plus=10, parts=2) for used in [0, 59, 60, 69, 70, 79, 80, 90, 5000]]
        self.assertEqual(told, [80, 21, 20, 20, 10, 10, 0, 0, 0])

    def test_without_late(self):
        self.assertEqual(self.stopped(10, credit=100), 50)


class Alike(Case):
    def run_clock(self):
        clock = Clock(3, base=60, kind=PARTS, plus=7, parts=2, credit=9)
        clock.begin(0, 0)
        clock.press(10, late=2)
        clock.press(75, late=3)
        return clock

    def test_twin(self):
        clock = self.run_clock()
        twin = clock.twin()
        self.assertEqual(twin, clock)
        self.assertEqual((twin.told(), twin.running(), twin.falls()), (clock.told(), clock.running(), clock.falls()))
        self.assertEqual(lefts(twin, 80), lefts(clock, 80))
        self.refused(NoTime, "time", 74, twin, lambda: twin.left(0, 74))
        for one, other in [(clock, twin), (twin, clock)]:
            ahead = [other.running(), other.falls(), lefts(other, 80)]
            one.press(80, late=1)
            self.assertEqual([other.running(), other.falls(), lefts(other, 80)], ahead)
            other.press(80, late=1)
            self.assertEqual(one, other)
        clock.stop(90)
        self.assertEqual((clock.running(), twin.running()), (None, 1))

    def test_twins_share_nothing(self):
        def begun():
            clock = Clock(2, base=60, kind=PARTS, plus=7, parts=4, credit=9)
            clock.begin(0, 0)
            return clock

        for step in [lambda one: one.press(72), lambda one: one.press(72, late=5), lambda one: one.stop(72)]:
            clock = begun()
            twin = clock.twin()
            step(twin)
            self.assertEqual(clock, begun())
            twin = clock.twin()
            step(clock)
            self.assertEqual(twin, begun())
            self.assertFalse(clock == begun())

    def test_fresh(self):
        clock = self.run_clock()
        ahead = clock.twin()
        fresh = clock.fresh()
        self.assertEqual(fresh, Clock(3, base=60, kind=PARTS, plus=7, parts=2, credit=9))
        self.assertEqual((fresh.told(), fresh.running(), lefts(fresh, 0)), (clock.told(), None, [74, 74, 74]))
        fresh.begin(1, 0)
        self.assertEqual(clock, ahead)

    def test_unlike_told(self):
        parts = {"players": 2, "base": 60, "kind": PARTS, "plus": 5, "parts": 2, "credit": 3}
        clock = Clock(**parts)
        self.assertTrue(clock == Clock(**parts))
        self.assertFalse(clock != Clock(**parts))
        for part, thing in [("players", 3), ("base", 61), ("kind", PLUS), ("plus", 6), ("parts", 1), ("credit", 4)]:
            other = Clock(**{**parts, part: thing})
            self.assertFalse(clock == other)
            self.assertTrue(other != clock)

    def test_unlike_in_what_has_become(self):
        def made(*, player=0, begun=0, pressed=((10, 0),), stopped=None, **parts):
            clock = Clock(2, **{"base": 60, "kind": PARTS, "plus": 10, "parts": 3, "credit": 9, **parts})
            clock.begin(player, begun)
            for time, late in pressed:
                clock.press(time, late=late)
            if stopped is not None:
                clock.stop(stopped)
            return clock

        clocks = [
            made(), made(player=1), made(pressed=[(11, 0)]), made(pressed=[(10, 1)]), made(pressed=[]),
            made(begun=1, pressed=[(11, 0)]), made(pressed=[(10, 0), (10, 0)]), made(stopped=10), made(stopped=12),
            # Nothing left, but other parts; alike but for the credit.
            made(pressed=[(75, 0)]), made(pressed=[(85, 0)]), made(pressed=[(79, 4)]),
        ]
        for at, one in enumerate(clocks):
            for k, two in enumerate(clocks):
                self.assertEqual(one == two, at == k, (at, k))

    def test_credit_alone_tells_them_apart(self):
        one, other = Clock(2, base=60, credit=9), Clock(2, base=60, credit=9)
        for clock, time, late in [(one, 10, 0), (other, 14, 4)]:
            clock.begin(0, 0)
            clock.press(time, late=late)
            clock.stop(time)
        self.assertEqual(lefts(one, 20), lefts(other, 20))
        self.assertFalse(one == other)

    def test_parts_alone_tell_them_apart(self):
        one, other, third = [Clock(2, base=60, kind=PARTS, plus=10, parts=3) for _ in range(3)]
        for clock, time in [(one, 75), (other, 85), (third, 79)]:
            clock.begin(0, 0)
            clock.stop(time)
        self.assertFalse(one == other)
        self.assertTrue(one == third)

    def test_the_last_time_does_not_count(self):
        one, other = Clock(2, base=60), Clock(2, base=60)
        one.begin(0, 5)
        one.stop(5)
        self.assertTrue(one == other)
        one.begin(1, 7)
        other.begin(1, 7)
        self.assertTrue(one == other)
        one.stop(8)
        other.stop(8)
        one.begin(0, 9)
        one.stop(9)
        self.assertTrue(one == other)

    def test_with_other_things(self):
        clock = Clock(2, base=60)
        for thing in [*NO_NUMBERS, 0, clock.told()]:
            self.assertFalse(clock == thing)
            self.assertTrue(clock != thing)

    def test_what_only_tells_changes_nothing(self):
        clock = self.run_clock()
        ahead = clock.twin()
        for _ in range(2):
            lefts(clock, 1000)
            clock.falls(), clock.running(), clock.told(), clock.twin(), clock.fresh()
        self.assertEqual(clock, ahead)
        clock.press(76)


if __name__ == "__main__":
    unittest.main()
