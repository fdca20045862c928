"""[20], [21]: worlds."""

import copy
import random
import unittest

from makers import NO_NUMBERS, Digest, DigestFails, digest, long_rule, take_rule
from playstead.errors import NoMove, NoPlayer, NoRule, Over
from playstead.rules import EVEN, Rule
from playstead.worlds import FALL, GIVEN, TWO, World

# What is told of a world, all of it.
TELLS = ["cells", "turn", "allowed", "points", "why", "played", "evens", "text"]


def whole(world):
    # A copy: what is told must be the asker's own, but that is to be tested.
    return copy.deepcopy([getattr(world, word)() for word in TELLS] + [len(world)])


def led(rule, names):
    world = World(rule)
    for name in names:
        world.play(name)
    return world


class Case(unittest.TestCase):
    def refused(self, kind, field, thing, world, do):
        ahead = whole(world)
        with self.assertRaises(kind, msg=repr(thing)) as caught:
            do()
        if field is not None:
            self.assertEqual(repr(getattr(caught.exception, field)), repr(thing))
        self.assertEqual(whole(world), ahead)

    def is_over(self, world, points, why):
        self.assertEqual(world.points(), points)
        self.assertIs(type(world.points()), tuple)
        self.assertEqual(world.why(), why)
        self.assertIsNone(world.turn())
        self.assertEqual(world.allowed(), [])
        self.refused(Over, None, None, world, lambda: world.play("one"))
        self.refused(Over, None, None, world, lambda: world.play(None))
        self.refused(Over, None, None, world, lambda: world.give(0))
        self.refused(Over, None, None, world, lambda: world.even(1))
        self.refused(NoPlayer, "player", 9, world, lambda: world.give(9))
        self.refused(NoPlayer, "player", None, world, lambda: world.even(None))


class Begun(Case):
    def test_constants(self):
        self.assertEqual((GIVEN, FALL, TWO), ("given", "fall", "two"))

    def test_at_the_beginning(self):
        world = World(Rule([3, 0, 1], [("a", None, (), ((0, "add", 1),)), ("b", 1, (), ((0, "add", 1),))]))
        self.assertEqual(world.cells(), (3, 0, 1))
        self.assertIs(type(world.cells()), tuple)
        self.assertEqual(world.turn(), 0)
        self.assertEqual(world.allowed(), ["a"])
        self.assertIsNone(world.points())
        self.assertIsNone(world.why())
        self.assertEqual((world.played(), world.evens(), len(world)), ([], [], 0))

    def test_of_what_is_no_rule(self):
        for thing in [*NO_NUMBERS, 0, take_rule().told()]:
            with self.assertRaises(NoRule):
                World(thing)
            with self.assertRaises(NoRule):
                World(rule=thing)


class Moves(Case):
    def test_turns(self):
        for players in [2, 3, 4]:
            world = World(long_rule(players=players))
            for many in range(3 * players):
                self.assertEqual((world.turn(), len(world)), (many % players, many))
                self.assertIsNone(world.play(world.allowed()[0]))

    def test_allowed_by_player(self):
        names = ["nought", "two", "one", "any"]
        by = [0, 2, 1, None]
        moves = [(name, who, (), ((0, "put", 1),)) for name, who in zip(names, by)]
        world = World(Rule([0], moves, players=3))
        for told in [["nought", "any"], ["one", "any"], ["two", "any"], ["nought", "any"]]:
            self.assertEqual(world.allowed(), told)
            for name in names:
                if name not in told:
                    self.refused(NoMove, "name", name, world, lambda: world.play(name))
            world.play("any")

    def test_allowed_by_tests(self):
        for sign, holding in [("is", [5]), ("least", [5, 6, 9]), ("most", [0, 4, 5])]:
            for cell in [0, 4, 5, 6, 9]:
                rule = Rule([1, cell], [("a", None, ((1, sign, 5),), ((0, "put", 1),)),
                                        ("b", None, (), ((0, "put", 1),))])
                self.assertEqual(World(rule).allowed(), ["a", "b"] if cell in holding else ["b"], (sign, cell))

    def test_all_tests_must_hold(self):
        for tests, holds in [
            (((0, "is", 1), (1, "is", 2)), True), (((0, "is", 1), (1, "is", 3)), False),
            (((0, "is", 2), (1, "is", 2)), False),
            (((0, "is", 1), (0, "least", 1), (1, "most", 2), (1, "is", 1)), False),
        ]:
            rule = Rule([1, 2], [("a", None, tests, ((0, "put", 1),)), ("b", None, (), ((0, "put", 1),))])
            self.assertEqual("a" in World(rule).allowed(), holds, tests)

    def test_allowed_by_changes(self):
        for start in range(10):
            for n in range(-9, 10):
                rule = Rule([0, start], [("a", None, (), ((0, "put", 9), (1, "add", n))),
                                         ("b", None, (), ((0, "put", 1),))])
                world = World(rule)
                if 0 <= start + n <= 9:
                    self.assertEqual(world.allowed(), ["a", "b"])
                    world.play("a")
                    self.assertEqual(world.cells(), (9, start + n))
                else:
                    self.assertEqual(world.allowed(), ["b"])
                    self.refused(NoMove, "name", "a", world, lambda: world.play("a"))

    def test_all_changes_come(self):
        move = ("a", None, (), ((2, "put", 7), (0, "add", -1), (1, "put", 0), (3, "add", 4)))
        world = led(Rule([3, 5, 1, 2, 8], [move]), ["a"])
        self.assertEqual(world.cells(), (2, 0, 7, 6, 8))

    def test_the_order_of_the_rule(self):
        rule = Rule([5], [(name, None, (), ((0, "put", 5),)) for name in ["z", "a", "m"]])
        self.assertEqual(World(rule).allowed(), ["z", "a", "m"])

    def test_no_move(self):
        world = led(take_rule(start=1), [])
        for thing in [*NO_NUMBERS, 0, "two", "three", "one ", ("one",), ["one"], {"one": 1}]:
            self.refused(NoMove, "name", thing, world, lambda: world.play(thing))
        self.assertIsNone(world.play(name="one"))

    def test_played(self):
        world = led(take_rule(start=5), ["one", "two", "one"])
        self.assertEqual((world.played(), len(world), world.cells(), world.turn()), (["one", "two", "one"], 3, (1,), 1))


class Ends(Case):
    def test_the_first_end_whose_tests_hold(self):
        ends = [
            (((0, "is", 3), (1, "is", 1)), (4, 0)), (((0, "is", 3),), (3, 1)), (((0, "most", 4),), (2, 1)),
            (((0, "most", 3),), (0, 4)),
        ]
        moves = [("one", None, (), ((0, "add", -1),)), ("two", None, (), ((0, "add", -2),))]
        self.is_over(led(Rule([5, 0], moves, ends=ends), ["two"]), (3, 1), "end")
        self.is_over(led(Rule([5, 1], moves, ends=ends), ["two"]), (4, 0), "end")
        self.is_over(led(Rule([5, 1], moves, ends=ends), ["one"]), (2, 1), "end")
        self.is_over(led(Rule([6, 0], moves, ends=ends[3:]), ["one", "two"]), (0, 4), "end")

    def test_at_the_beginning(self):
        self.is_over(World(take_rule(ends=[(((0, "is", 5),), (0, 3))])), (0, 3), "end")
        self.is_over(World(take_rule(ends=[((), (0, 0))])), (0, 0), "end")
        world = World(take_rule(ends=[(((0, "is", 4),), (0, 3))]))
        self.assertIsNone(world.why())

    def test_by_the_most(self):
        for most in [1, 2, 5, 60]:
            for players in [2, 3, 4]:
                world = World(long_rule(players=players, most=most))
                for _ in range(most):
                    self.assertIsNone(world.why())
                    world.play(world.allowed()[0])
                self.assertEqual(len(world), most)
                self.is_over(world, (1,) * players, "most")

    def test_by_who_is_stuck(self):
        for players in [2, 3, 4]:
            for many in range(1, 6):
                world = led(take_rule(start=many, players=players), ["one"] * many)
                points = tuple([0 if player == many % players else 2 for player in range(players)])
                self.is_over(world, points, "stuck")
                world = led(take_rule(start=many, players=players, stuck=EVEN), ["one"] * many)
                self.is_over(world, (1,) * players, "stuck")

    def test_stuck_at_the_beginning(self):
        self.is_over(World(take_rule(start=0)), (0, 2), "stuck")
        self.is_over(World(take_rule(start=0, stuck=EVEN)), (1, 1), "stuck")

    def test_stuck_though_the_other_could(self):
        rule = Rule([0], [("a", 0, (), ((0, "put", 1),))], players=3)
        self.is_over(led(rule, ["a"]), (2, 0, 2), "stuck")

    def test_which_comes_first(self):
        end = [(((0, "is", 0),), (3, 4))]
        self.is_over(led(take_rule(start=2, most=2, ends=end), ["one", "one"]), (3, 4), "end")
        self.is_over(led(take_rule(start=2, most=2), ["one", "one"]), (1, 1), "most")
        self.is_over(led(take_rule(start=2, most=3), ["one", "one"]), (0, 2), "stuck")
        self.is_over(led(take_rule(start=2, most=3, ends=end), ["two"]), (3, 4), "end")
        self.is_over(World(take_rule(start=0, ends=end)), (3, 4), "end")


class Given(Case):
    def test_who_gives(self):
        for players in [2, 3, 4]:
            for player in range(players):
                for names in [[], ["up"], ["up", "down"]]:
                    world = led(long_rule(players=players), names)
                    cells = world.cells()
                    self.assertIsNone(world.give(player))
                    self.is_over(world, tuple([0 if one == player else 2 for one in range(players)]), "given")
                    self.assertEqual((world.played(), world.cells()), (names, cells))

    def test_why(self):
        for why in [GIVEN, FALL, TWO]:
            world = World(long_rule())
            world.give(player=1, why=why)
            self.is_over(world, (2, 0), why)
        with self.assertRaises(TypeError):
            World(long_rule()).give(1, TWO)

    def test_no_player(self):
        for players in [2, 3, 4]:
            world = World(long_rule(players=players))
            for thing in [*NO_NUMBERS, -1, players, 10 ** 39]:
                self.refused(NoPlayer, "player", thing, world, lambda: world.give(thing))
                self.refused(NoPlayer, "player", thing, world, lambda: world.even(thing))


class Evens(Case):
    def test_all_of_them(self):
        for players in [2, 3, 4]:
            world = led(long_rule(players=players), ["up"])
            for player in reversed(range(players)):
                self.assertIsNone(world.why())
                self.assertIsNone(world.even(player=player))
                self.assertEqual(world.evens(), list(range(player, players)))
            self.is_over(world, (1,) * players, "even")
            self.assertEqual(world.evens(), list(range(players)))
            self.assertEqual((world.played(), world.cells()), (["up"], (1,)))

    def test_at_the_beginning(self):
        world = World(long_rule())
        world.even(0)
        world.even(1)
        self.is_over(world, (1, 1), "even")

    def test_again_nothing_comes_of_it(self):
        world = World(long_rule(players=3))
        for player in [1, 1, 1]:
            self.assertIsNone(world.even(player))
            self.assertEqual((world.evens(), world.why(), world.turn()), ([1], None, 0))

    def test_a_move_clears_it(self):
        world = World(long_rule())
        world.even(1)
        world.play("up")
        self.assertEqual(world.evens(), [])
        world.even(0)
        self.assertIsNone(world.why())
        world.even(1)
        self.is_over(world, (1, 1), "even")

    def test_what_is_refused_clears_nothing(self):
        world = World(long_rule())
        world.even(1)
        self.refused(NoMove, "name", "down", world, lambda: world.play("down"))
        self.assertEqual(world.evens(), [1])

    def test_given_with_evens(self):
        world = World(long_rule())
        world.even(1)
        world.give(1)
        self.is_over(world, (2, 0), "given")
        self.assertEqual(world.evens(), [1])


class Told(Case):
    def test_what_is_told_is_the_askers_own(self):
        world = led(take_rule(), ["one", "two"])
        world.even(1)
        ahead = whole(world)
        for word in ["allowed", "played", "evens"]:
            getattr(world, word)().append(5)
            getattr(world, word)().clear()
        self.assertEqual(whole(world), ahead)
        self.assertEqual(whole(world), ahead)

    def test_what_only_tells_changes_nothing(self):
        world, other = led(take_rule(), ["one"]), led(take_rule(), ["one"])
        for _ in range(3):
            whole(world)
            world.twin()
            world.mark(digest)
        self.assertEqual(world, other)
        self.assertEqual(whole(world), whole(other))

    def test_text(self):
        world = World(Rule([3, 0, 1], [("a", None, (), ((0, "add", -1),))], players=3))
        self.assertEqual(world.text(), "3,0,1|0|0|-|-|-")
        world.play("a")
        self.assertEqual(world.text(), "2,0,1|1|1|-|-|-")
        world.even(2)
        self.assertEqual(world.text(), "2,0,1|1|1|2|-|-")
        world.even(0)
        self.assertEqual(world.text(), "2,0,1|1|1|0,2|-|-")
        world.even(1)
        self.assertEqual(world.text(), "2,0,1|-|1|0,1,2|1,1,1|even")

    def test_text_of_each_end(self):
        self.assertEqual(World(take_rule(ends=[((), (0, 4))])).text(), "5|-|0|-|0,4|end")
        self.assertEqual(led(take_rule(most=1), ["two"]).text(), "3|-|1|-|1,1|most")
        self.assertEqual(led(take_rule(start=2), ["two"]).text(), "0|-|1|-|2,0|stuck")
        self.assertEqual(led(long_rule(), ["up", "down"] * 6).text(), "0|0|12|-|-|-")
        for why in [GIVEN, FALL, TWO]:
            world = World(take_rule())
            world.give(1, why=why)
            self.assertEqual(world.text(), f"5|-|0|-|2,0|{why}")

    def test_mark(self):
        world = led(take_rule(), ["one"])
        asking = Digest()
        self.assertEqual(world.mark(asking), digest("4|1|1|-|-|-"))
        self.assertEqual(world.mark(digest=asking), digest("4|1|1|-|-|-"))
        self.assertEqual(set(asking.asked), {"4|1|1|-|-|-"})
        self.assertEqual(world.mark(lambda text: 17), 17)

    def test_a_digest_that_raises(self):
        world = led(take_rule(), ["one"])
        asking = Digest()
        asking.fail_at(1)
        self.refused(DigestFails, None, None, world, lambda: world.mark(asking))


class Twins(Case):
    def test_they_stand_alike(self):
        for names in [[], ["one"], ["one", "two"], ["two", "two", "one"]]:
            world = led(take_rule(), names)
            self.assertEqual(whole(world.twin()), whole(world))
            self.assertEqual(world.twin(), world)

    def test_they_go_their_own_ways(self):
        steps = [
            lambda world: world.play("one"), lambda world: world.even(0), lambda world: world.even(1),
            lambda world: world.give(1, why=FALL),
        ]
        for step in steps:
            world = led(take_rule(start=9), ["one"])
            world.even(1)
            ahead = whole(world)
            twin = world.twin()
            step(twin)
            self.assertEqual(whole(world), ahead)
            twin = world.twin()
            step(world)
            self.assertEqual(whole(twin), ahead)
            step(twin)
            self.assertEqual(whole(twin), whole(world))

    def test_of_one_that_is_over(self):
        world = World(take_rule())
        world.give(0, why=TWO)
        self.is_over(world.twin(), (0, 2), "two")


class Equal(Case):
    def test_alike(self):
        self.assertTrue(led(take_rule(), ["one", "two"]) == led(take_rule(), ["one", "two"]))
        self.assertFalse(led(take_rule(), ["one", "two"]) != led(take_rule(), ["one", "two"]))

    def test_unlike(self):
        base = led(take_rule(start=9), ["two", "two"])
        evens = base.twin()
        evens.even(0)
        both = evens.twin()
        both.even(1)
        given, fallen, other = base.twin(), base.twin(), base.twin()
        given.give(0)
        fallen.give(0, why=FALL)
        other.give(1)
        worlds = [
            base, evens, both, given, fallen, other, led(take_rule(start=9), ["two"]),
            led(take_rule(start=9), ["one", "two", "one"]), led(take_rule(start=9, most=39), ["two", "two"]),
            led(take_rule(start=9), ["two", "one"]), led(take_rule(start=9, stuck=EVEN), ["two", "two"]),
        ]
        for at, one in enumerate(worlds):
            for k, two in enumerate(worlds):
                self.assertEqual(one == two, at == k, (at, k))
                self.assertEqual(one != two, at != k, (at, k))

    def test_moves_alike_by_other_names(self):
        rule = Rule([0], [("a", None, (), ((0, "put", 0),)), ("b", None, (), ((0, "put", 0),))])
        self.assertFalse(led(rule, ["a"]) == led(rule, ["b"]))

    def test_with_other_things(self):
        world = World(take_rule())
        for thing in [*NO_NUMBERS, 0, world.text(), take_rule()]:
            self.assertFalse(world == thing)
            self.assertTrue(world != thing)


class Any(Case):
    def test_any_game_goes_by_the_points(self):
        chance = random.Random(20)
        for _ in range(200):
            rule, players = chance_rule(chance)
            start, moves, _, ends, most, stuck = rule.told()
            world, cells, played = World(rule), list(start), []
            while True:
                points, why, allowed = told_again(cells, len(played), moves, players, ends, most, stuck)
                self.assertEqual((world.cells(), world.played(), world.points(), world.why(), world.allowed()),
                                 (tuple(cells), played, points, why, allowed))
                if why is not None:
                    break
                name = chance.choice(allowed)
                for cell, word, n in [move for move in moves if move[0] == name][0][3]:
                    cells[cell] = n + (cells[cell] if word == "add" else 0)
                world.play(name)
                played.append(name)


def told_again(cells, many, moves, players, ends, most, stuck):
    """Points, why and allowed of a world, worked out a second time."""
    signs = {"is": lambda a, b: a == b, "least": lambda a, b: a >= b, "most": lambda a, b: a <= b}
    for tests, points in ends:
        if all(signs[sign](cells[cell], n) for cell, sign, n in tests):
            return points, "end", []
    if many == most:
        return (1,) * players, "most", []
    turn, allowed = many % players, []
    for name, by, tests, changes in moves:
        fits = all(0 <= (n if word == "put" else cells[cell] + n) <= 9 for cell, word, n in changes)
        if by in (None, turn) and fits and all(signs[sign](cells[cell], n) for cell, sign, n in tests):
            allowed.append(name)
    if allowed:
        return None, None, allowed
    lost = tuple(0 if player == turn else 2 for player in range(players))
    return (lost if stuck == "lose" else (1,) * players), "stuck", []


def chance_rule(chance):
    players, cells = chance.randint(2, 4), chance.randint(1, 4)

    def tests(most):
        return tuple([
            (chance.randrange(cells), chance.choice(["is", "least", "most"]), chance.randint(0, 9))
            for _ in range(chance.randint(0, most))
        ])

    def changes():
        return tuple([
            (cell, "put", chance.randint(0, 9)) if chance.random() < 0.3 else (cell, "add", chance.randint(-3, 3))
            for cell in chance.sample(range(cells), chance.randint(1, cells))
        ])

    moves = [
        (name, chance.choice([None, None, *range(players)]), tests(1), changes()) for name in "abcdefg"
    ]
    ends = [
        ((*tests(2), (chance.randrange(cells), "is", 9)), tuple([chance.randint(0, 4) for _ in range(players)]))
        for _ in range(chance.randint(0, 3))
    ]
    start = [chance.randint(0, 9) for _ in range(cells)]
    stuck = chance.choice(["lose", "even"])
    return Rule(start, moves, players=players, ends=ends, most=chance.randint(1, 12), stuck=stuck), players


if __name__ == "__main__":
    unittest.main()
