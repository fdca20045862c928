"""[92]: cups, round by round."""

import copy
import random
import unittest

from makers import NO_NUMBERS, OTHERS
from playstead.cups import Cup
from playstead.errors import NoCup, NoPairing, NoResult, Over
from playstead.pairings import paired

NAMES = ["ada", "bob", "cyd", "dan", "eve"]


def level(names):
    return {name: 0 for name in names}


def whole(cup, results=()):
    return copy.deepcopy([cup.rounds(), cup.points_by(results)])


class Case(unittest.TestCase):
    def refused(self, kind, cup, do):
        ahead = whole(cup)
        with self.assertRaises(kind):
            do()
        self.assertEqual(whole(cup), ahead)


class Made(Case):
    def test_by_place_and_by_name(self):
        for cup in [Cup("open", NAMES, rounds=3), Cup(cup="open", names=tuple(NAMES), rounds=3)]:
            self.assertEqual((cup.rounds(), cup.points_by([])), ([], level(NAMES)))
            self.assertEqual(list(cup.points_by([])), NAMES)
        with self.assertRaises(TypeError):
            Cup("open", NAMES, 3)

    def test_no_cup(self):
        for thing in [*NO_NUMBERS, 0, "Open", "abcdefg", "abcdefgh", ["open"]]:
            for names, rounds in [(NAMES, 3), (None, 0)]:
                if thing != "a":
                    with self.assertRaises(NoCup, msg=repr(thing)) as caught:
                        Cup(thing, names, rounds=rounds)
                    self.assertEqual(repr(caught.exception.cup), repr(thing))
        Cup("a", NAMES, rounds=1)
        Cup("abcdef", NAMES, rounds=9)

    def test_no_names_and_no_rounds(self):
        for thing in [*OTHERS, 0, ["ada"], ["ada", "ada"], ["ada", "Bob"], "ab", {"ada": 0, "bob": 0},
                      ["ada", None], [chr(97 + at) for at in range(11)]]:
            with self.assertRaises(NoPairing, msg=repr(thing)):
                Cup("open", thing, rounds=3)
        for thing in [*NO_NUMBERS, 0, -1, 10, 10 ** 39]:
            with self.assertRaises(NoPairing, msg=repr(thing)):
                Cup("open", NAMES, rounds=thing)
        Cup("open", [chr(97 + at) for at in range(10)], rounds=9)
        Cup("open", ["ada", "bob"], rounds=1)

    def test_names_changed_behind(self):
        names = list(NAMES)
        cup = Cup("open", names, rounds=2)
        names.reverse()
        names.append("fay")
        self.assertEqual(list(cup.points_by([])), NAMES)
        self.assertEqual(cup.pair(level(NAMES)), ([("ada", "bob"), ("cyd", "dan")], "eve"))


class Pairs(Case):
    def test_met_sat_and_firsts_as_they_came(self):
        for seed in range(60):
            chance = random.Random(seed)
            names = NAMES[:chance.randint(2, 5)]
            cup = Cup("open", names, rounds=9)
            met, sat, firsts, laps = [], [], level(names), []
            for _ in range(9):
                points = {name: chance.randint(0, 6) for name in names}
                ahead = dict(points)
                try:
                    expected = paired(names, points=points, met=met, sat=sat, firsts=firsts)
                except NoPairing:
                    self.refused(NoPairing, cup, lambda: cup.pair(points))
                    break
                self.assertEqual(cup.pair(points=points), expected)
                self.assertEqual(points, ahead)
                laps.append(expected)
                met += expected[0]
                sat += [] if expected[1] is None else [expected[1]]
                for first, _ in expected[0]:
                    firsts[first] += 1
                self.assertEqual(cup.rounds(), laps)

    def test_by_hand(self):
        cup = Cup("open", NAMES[:4], rounds=3)
        self.assertEqual(cup.pair(level(NAMES[:4])), ([("ada", "bob"), ("cyd", "dan")], None))
        # Ada and cyd were first: now bob and dan are, where they don't meet each other.
        self.assertEqual(cup.pair({"ada": 2, "bob": 0, "cyd": 0, "dan": 2}), ([("dan", "ada"), ("bob", "cyd")], None))
        self.assertEqual(cup.pair({"ada": 4, "bob": 0, "cyd": 2, "dan": 2}), ([("ada", "cyd"), ("bob", "dan")], None))
        self.assertEqual([out for _, out in cup.rounds()], [None, None, None])

    def test_over(self):
        cup = Cup("open", NAMES[:4], rounds=2)
        for _ in range(2):
            cup.pair(level(NAMES[:4]))
        for points in [level(NAMES[:4]), None, {}]:
            self.refused(Over, cup, lambda: cup.pair(points))

    def test_no_pairing(self):
        cup = Cup("open", NAMES[:2], rounds=2)
        for thing in [*OTHERS, 0, level(NAMES), {"ada": 0}, {"ada": 0, "bob": 101}, {"ada": 0, "bob": True}]:
            self.refused(NoPairing, cup, lambda: cup.pair(thing))
        cup.pair(level(NAMES[:2]))
        self.refused(NoPairing, cup, lambda: cup.pair(level(NAMES[:2])))
        three = Cup("open", NAMES[:3], rounds=9)
        self.assertEqual([three.pair(level(NAMES[:3]))[1] for _ in range(3)], ["cyd", "bob", "ada"])
        self.refused(NoPairing, three, lambda: three.pair(level(NAMES[:3])))

    def test_what_is_told_is_the_askers_own(self):
        cup = Cup("open", NAMES, rounds=3)
        told = cup.pair(level(NAMES))
        ahead = whole(cup)
        told[0].clear()
        laps = cup.rounds()
        laps[0][0].append(None)
        laps.clear()
        cup.points_by([]).clear()
        self.assertEqual(whole(cup), ahead)
        self.assertEqual(cup.rounds(), [([("ada", "bob"), ("cyd", "dan")], "eve")])


class Points(Case):
    def cup(self, laps=2):
        cup = Cup("open", NAMES, rounds=3)
        for _ in range(laps):
            cup.pair(level(NAMES))
        return cup

    def test_of_its_rounds_so_far(self):
        cup = self.cup(1)
        one, two = ("openaa", 0, ("ada", "bob"), (3, 1)), ("openab", 9, ("cyd", "dan"), (0, 2))
        self.assertEqual(cup.points_by([one, two]), {"ada": 3, "bob": 1, "cyd": 0, "dan": 2, "eve": 2})
        self.assertEqual(cup.points_by(results=(two,)), {"ada": 0, "bob": 0, "cyd": 0, "dan": 2, "eve": 2})
        self.assertEqual(list(cup.points_by([two, one])), NAMES)
        # The second round's games count as soon as it has come.
        self.assertEqual(cup.rounds()[0][1], "eve")
        cup.pair(level(NAMES))
        games, out = cup.rounds()[1]
        three = ("openba", 3, games[0], (4, 4))
        self.assertEqual(out, "dan")
        expected = {name: {"dan": 2, "eve": 2}.get(name, 0) + (4 if name in games[0] else 0) for name in NAMES}
        self.assertEqual(cup.points_by([three]), expected)
        self.assertEqual(self.cup(1).points_by([three]), {**level(NAMES), "eve": 2})

    def test_of_others(self):
        cup = self.cup(1)
        plain = {**level(NAMES), "eve": 2}
        for result in [("nim", 0, ("ada", "bob"), (3, 1)), ("openac", 0, ("ada", "bob"), (3, 1)),
                       ("openaa", 0, ("bob", "ada"), (3, 1)), ("openaa", 0, ("ada", "cyd"), (3, 1)),
                       ("openaa", 0, ("ada", "bob", "cyd"), (3, 1, 1)), ("openab", 0, ("ada", "bob"), (3, 1)),
                       ("openba", 0, ("ada", "bob"), (3, 1)), ("opan", 0, ("ada", "bob"), (3, 1)),
                       ("openca", 0, ("ada", "bob"), (3, 1)), ("openaa", 0, ("fay", "gil"), (3, 1))]:
            self.assertEqual(cup.points_by([result]), plain)
        self.assertEqual(Cup("open", NAMES, rounds=1).points_by([("openaa", 0, ("ada", "bob"), (3, 1))]), level(NAMES))

    def test_twice_in_the_list(self):
        one = ("openaa", 0, ("ada", "bob"), (3, 1))
        self.assertEqual(self.cup(1).points_by([one, one]), {"ada": 6, "bob": 2, "cyd": 0, "dan": 0, "eve": 2})

    def test_no_result(self):
        cup = self.cup()
        one = ("openaa", 0, ("ada", "bob"), (3, 1))
        for thing in [None, True, 0, "", "ab", {}, {"a": one}, one]:
            self.refused(NoResult, cup, lambda: cup.points_by(thing))
        for thing in [*OTHERS, 0, list(one), one[:3], ("openaa", 0, ("ada", "bob"), (3, 5)),
                      ("openaa", 401, ("ada", "bob"), (3, 1))]:
            self.refused(NoResult, cup, lambda: cup.points_by([one, thing]))

    def test_what_is_handed_in_stays(self):
        results = [("openab", 9, ("cyd", "dan"), (0, 2)), ("openaa", 0, ("ada", "bob"), (3, 1))]
        ahead = copy.deepcopy(results)
        self.cup().points_by(results)
        self.assertEqual(results, ahead)


class Games(Case):
    def test_game_name(self):
        cup = Cup("abcdef", NAMES, rounds=1)
        self.assertEqual([cup.game_name(lap, 1) for lap in range(1, 10)],
                         ["abcdef" + letter + "a" for letter in "abcdefghi"])
        self.assertEqual([cup.game_name(lap=2, k=k) for k in range(1, 6)],
                         ["abcdefb" + letter for letter in "abcde"])


class Twins(Case):
    def test_go_their_own_ways(self):
        cup = Cup("open", NAMES, rounds=3)
        cup.pair(level(NAMES))
        twin, ahead = cup.twin(), whole(cup)
        twin.pair(level(NAMES))
        self.assertEqual(whole(cup), ahead)
        self.assertEqual((len(twin.rounds()), cup.asked()), (2, (tuple(NAMES), 3)))


if __name__ == "__main__":
    unittest.main()
