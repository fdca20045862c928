"""[90], [91]: pairings and standings."""

import copy
import itertools
import random
import unittest

from makers import OTHERS
from playstead.errors import NoPairing, NoResult
from playstead.pairings import paired, standing

NAMES = ["ada", "bob", "cyd", "dan", "eve", "fay", "gil", "hal", "ian", "joy"]
FOUR = NAMES[:4]
EVEN = {name: 0 for name in FOUR}


def all_pairings(places):
    """All ways to pair some places, as lists of pairs, the lesser first, pairs rising."""
    if not places:
        return [[]]
    ways = []
    for at in range(1, len(places)):
        rest = places[1:at] + places[at + 1:]
        ways += [[(places[0], places[at]), *way] for way in all_pairings(rest)]
    return ways


def plainly(names, points, met, sat, firsts):
    """The pair (games, out) by a search through all, or None."""
    met = {frozenset(pair) for pair in met}

    def best(places):
        ways = [way for way in all_pairings(places)
                if not any([frozenset((names[one], names[other])) in met for one, other in way])]
        cost = {tuple(way): sum([(points[names[one]] - points[names[other]]) ** 2 for one, other in way])
                for way in ways}
        return min(cost, key=lambda way: (cost[way], way)) if cost else None

    places = list(range(len(names)))
    if len(names) % 2 == 0:
        outs = [None]
    else:
        outs = [at for at in places if names[at] not in sat and best([one for one in places if one != at]) is not None]
        if not outs:
            return None
        least = min([points[names[at]] for at in outs])
        outs = [[at for at in outs if points[names[at]] == least][-1]]
    way = best([at for at in places if at != outs[0]])
    if way is None:
        return None
    count = {name: (firsts or {}).get(name, 0) for name in names}
    games = []
    for one, other in way:
        games.append((names[one], names[other]) if count[names[one]] <= count[names[other]] else
                     (names[other], names[one]))
    return (games, None if outs[0] is None else names[outs[0]])


class Paired(unittest.TestCase):
    def test_against_a_search_through_all(self):
        none = 0
        for seed in range(400):
            chance = random.Random(seed)
            names = chance.sample(NAMES, chance.choice([2, 3, 4, 4, 5, 5, 6, 6, 7, 8]))
            points = {name: chance.randint(0, chance.choice([0, 2, 5, 100])) for name in names}
            pairs = list(itertools.combinations(names, 2))
            met = [chance.choice([pair, pair[::-1]]) for pair in chance.sample(pairs, chance.randint(0, len(pairs)))]
            met += met[:chance.randint(0, 1)]
            sat = chance.sample(names, chance.randint(0, len(names)))
            firsts = chance.choice([None, {}, {name: chance.randint(0, 3) for name in names[1:]}])
            expected = plainly(names, points, met, sat, firsts)
            ahead = copy.deepcopy([names, points, met, sat, firsts])
            try:
                told = paired(names, points=points, met=met, sat=sat, firsts=firsts)
            except NoPairing:
                told = None
                none += 1
            self.assertEqual(told, expected)
            self.assertEqual([names, points, met, sat, firsts], ahead)
            self.assertEqual(list(points), list(ahead[1]))
        self.assertGreater(none, 20)
        self.assertLess(none, 300)

    def test_ten_and_nine(self):
        for names in [NAMES, NAMES[:9]]:
            for seed in range(3):
                chance = random.Random(seed)
                points = {name: chance.randint(0, 9) for name in names}
                met = chance.sample(list(itertools.combinations(names, 2)), 12)
                self.assertEqual(paired(names, points=points, met=met), plainly(names, points, met, [], None))

    def test_two_and_three(self):
        self.assertEqual(paired(["ada", "bob"], points={"ada": 0, "bob": 0}), ([("ada", "bob")], None))
        self.assertEqual(paired(names=("bob", "ada"), points={"ada": 9, "bob": 0}), ([("bob", "ada")], None))
        self.assertEqual(paired(NAMES[:3], points={"ada": 0, "bob": 0, "cyd": 0}), ([("ada", "bob")], "cyd"))

    def test_points(self):
        self.assertEqual(paired(FOUR, points=EVEN), ([("ada", "bob"), ("cyd", "dan")], None))
        points = {"ada": 4, "bob": 0, "cyd": 4, "dan": 0}
        self.assertEqual(paired(FOUR, points=points), ([("ada", "cyd"), ("bob", "dan")], None))
        # 1 + 1 is less than 0 + 4, though the greatest difference isn't the only thing.
        points = {"ada": 3, "bob": 2, "cyd": 1, "dan": 2}
        self.assertEqual(paired(FOUR, points=points), ([("ada", "bob"), ("cyd", "dan")], None))

    def test_ties(self):
        points = {"ada": 1, "bob": 1, "cyd": 1, "dan": 1}
        for met, games in [([], [("ada", "bob"), ("cyd", "dan")]), ([("bob", "ada")], [("ada", "cyd"), ("bob", "dan")]),
                           ([("dan", "cyd")], [("ada", "cyd"), ("bob", "dan")]),
                           ([("ada", "bob"), ("dan", "bob")], [("ada", "dan"), ("bob", "cyd")])]:
            self.assertEqual(paired(FOUR, points=points, met=met), (games, None))
        self.assertEqual(paired(FOUR[::-1], points=points), ([("dan", "cyd"), ("bob", "ada")], None))

    def test_who_sits_out(self):
        names = NAMES[:5]
        points = {"ada": 2, "bob": 0, "cyd": 1, "dan": 0, "eve": 3}
        for sat, out in [([], "dan"), (["dan"], "bob"), (["dan", "bob", "dan"], "cyd"), (("dan", "bob", "cyd"), "ada"),
                         (["dan", "bob", "cyd", "ada"], "eve")]:
            self.assertEqual(paired(names, points=points, sat=sat)[1], out)
        with self.assertRaises(NoPairing):
            paired(names, points=points, sat=names)
        # Of even many nobody sits out, whoever has.
        self.assertIsNone(paired(FOUR, points=EVEN, sat=FOUR)[1])

    def test_without_whom_the_others_can_not_be_paired(self):
        # Ada has met bob and cyd: only dan is left to her, so he doesn't sit out.
        names = ["ada", "bob", "cyd"]
        met = [("bob", "cyd")]
        points = {"ada": 0, "bob": 5, "cyd": 5}
        self.assertEqual(paired(names, points=points, met=met), ([("ada", "bob")], "cyd"))
        self.assertEqual(paired(names, points=points, met=[*met, ("bob", "ada")]), ([("ada", "cyd")], "bob"))
        with self.assertRaises(NoPairing):
            paired(names, points=points, met=[*met, ("bob", "ada")], sat=["bob"])

    def test_no_two_have_met(self):
        with self.assertRaises(NoPairing):
            paired(["ada", "bob"], points={"ada": 0, "bob": 0}, met=[("ada", "bob")])
        with self.assertRaises(NoPairing):
            paired(FOUR, points=EVEN, met=[("ada", "bob"), ("cyd", "ada"), ("ada", "dan")])
        self.assertEqual(paired(FOUR, points=EVEN, met=[("ada", "bob"), ("bob", "ada"), ("ada", "bob")]),
                         ([("ada", "cyd"), ("bob", "dan")], None))

    def test_first_and_second(self):
        for firsts, games in [
            (None, [("ada", "bob"), ("cyd", "dan")]), ({}, [("ada", "bob"), ("cyd", "dan")]),
            ({"ada": 1}, [("bob", "ada"), ("cyd", "dan")]), ({"ada": 1, "bob": 1}, [("ada", "bob"), ("cyd", "dan")]),
            ({"ada": 2, "bob": 1, "cyd": 100, "dan": 99}, [("bob", "ada"), ("dan", "cyd")]),
            ({"bob": 1, "dan": 0}, [("ada", "bob"), ("cyd", "dan")]),
        ]:
            self.assertEqual(paired(FOUR, points=EVEN, firsts=firsts), (games, None))

    def test_the_order_of_games(self):
        points = {"ada": 9, "bob": 1, "cyd": 5, "dan": 1, "eve": 5, "fay": 9}
        self.assertEqual(paired(NAMES[:6], points=points, firsts={"ada": 1, "bob": 1}),
                         ([("fay", "ada"), ("dan", "bob"), ("cyd", "eve")], None))

    def test_what_is_told_is_the_askers_own(self):
        told = paired(FOUR, points=EVEN)
        told[0].clear()
        self.assertEqual(paired(FOUR, points=EVEN), ([("ada", "bob"), ("cyd", "dan")], None))


class NoSuch(unittest.TestCase):
    def no(self, names, **rest):
        ahead = repr((names, rest))
        with self.assertRaises(NoPairing, msg=ahead):
            paired(names, **{"points": EVEN, **rest})
        self.assertEqual(repr((names, rest)), ahead)

    def test_names(self):
        for thing in [*OTHERS, 0, ["ada"], [*FOUR, "ada"], ["ada", "Bob"], ["ada", None], ["ada", ["bob"]], "ab",
                      {"ada": 0, "bob": 0}, [*NAMES, "kim"], ["ada", "ada"], ["ada", True]]:
            points = {name: 0 for name in thing if type(name) is str} if isinstance(thing, (list, tuple)) else {}
            self.no(thing, points=points)

    def test_points(self):
        for thing in [*OTHERS, 0, [0] * 4, {name: 0 for name in NAMES[:3]}, {name: 0 for name in NAMES[:5]},
                      *[{**EVEN, "bob": worth} for worth in [-1, 101, True, None, "1", [1], 10 ** 39]],
                      {"ada": 0, "bob": 0, "cyd": 0, "eve": 0}, list(EVEN.items())]:
            self.no(FOUR, points=thing)
        paired(FOUR, points={"dan": 100, "cyd": 0, "bob": 0, "ada": 0})

    def test_met(self):
        for thing in [None, True, 0, "", "ab", {}, {("ada", "bob"): 1}]:
            self.no(FOUR, met=thing)
        for pair in [*OTHERS, 0, ["ada", "bob"], ("ada",), ("ada", "ada"), ("ada", "bob", "cyd"), ("ada", "eve"),
                     ("Ada", "bob"), ("ada", None), (["ada"], "bob"), "ab"]:
            self.no(FOUR, met=[("cyd", "dan"), pair])
        paired(FOUR, points=EVEN, met=(("ada", "bob"), ("bob", "ada")))

    def test_sat(self):
        for thing in [None, True, 0, "", "ada", {}, {"ada": 1}]:
            self.no(FOUR, sat=thing)
        for name in [*OTHERS, 0, "eve", "Ada", ["ada"], ("ada",)]:
            self.no(FOUR, sat=["bob", name])

    def test_firsts(self):
        for thing in [True, False, 0, "", "ada", [], (), ["ada"], {"eve": 0}, {None: 0}, {0: 1}, {("ada",): 0},
                      {"Ada": 1}]:
            self.no(FOUR, firsts=thing)
        for many in [-1, 101, True, None, "1", [1]]:
            self.no(FOUR, firsts={"ada": 0, "bob": many})
        paired(FOUR, points=EVEN, firsts={"ada": 100, "bob": 0})


class Standings(unittest.TestCase):
    def test_points_others_and_wins(self):
        results = [("a", 0, ("ada", "bob"), (2, 0)), ("b", 1, ("cyd", "dan"), (1, 1)), ("c", 2, ("cyd", "ada"), (3, 1)),
                   ("d", 2, ("bob", "dan"), (4, 0))]
        self.assertEqual(standing(FOUR, results),
                         [("bob", 4, 4, 1), ("cyd", 4, 4, 1), ("ada", 3, 8, 1), ("dan", 1, 8, 0)])
        self.assertEqual(standing(names=tuple(FOUR), results=tuple(results)), standing(FOUR, results))

    def test_of_no_results(self):
        self.assertEqual(standing(["bob", "ada"], []), [("bob", 0, 0, 0), ("ada", 0, 0, 0)])
        self.assertEqual(standing(["bob", "ada"], ()), [("bob", 0, 0, 0), ("ada", 0, 0, 0)])

    def test_by_others(self):
        results = [("a", 0, ("ada", "cyd"), (2, 0)), ("b", 0, ("bob", "dan"), (2, 1))]
        self.assertEqual(standing(FOUR, results), [("bob", 2, 1, 1), ("ada", 2, 0, 1), ("dan", 1, 2, 0),
                                                   ("cyd", 0, 2, 0)])

    def test_by_wins(self):
        # Both have 2 and met who has 2: one by a win, one by two even games.
        results = [("a", 0, ("ada", "cyd"), (1, 1)), ("b", 0, ("ada", "cyd"), (1, 1)), ("c", 0, ("bob", "dan"), (2, 0)),
                   ("d", 0, ("dan", "eve"), (4, 0))]
        self.assertEqual(standing(NAMES[:5], results), [
            ("dan", 4, 2, 1), ("bob", 2, 4, 1), ("ada", 2, 4, 0), ("cyd", 2, 4, 0), ("eve", 0, 4, 0),
        ])

    def test_by_names_as_handed_in(self):
        results = [("a", 0, ("ada", "cyd"), (1, 1))]
        for names in itertools.permutations(["ada", "bob", "cyd"]):
            own = [name for name in names if name != "bob"]
            self.assertEqual(standing(list(names), results), [(own[0], 1, 1, 0), (own[1], 1, 1, 0), ("bob", 0, 0, 0)])

    def test_met_twice(self):
        results = [("a", 0, ("ada", "bob"), (2, 1)), ("b", 3, ("bob", "ada"), (2, 1)), ("c", 5, ("ada", "cyd"), (0, 4))]
        self.assertEqual(standing(["ada", "bob", "cyd"], results),
                         [("cyd", 4, 3, 1), ("ada", 3, 10, 1), ("bob", 3, 6, 1)])

    def test_against_the_words(self):
        for seed in range(60):
            chance = random.Random(seed)
            names = chance.sample(NAMES, chance.randint(2, 6))
            results = [(chr(97 + at), 0, tuple(chance.sample(names, 2)), (chance.randint(0, 2), chance.randint(0, 2)))
                       for at in range(chance.randint(0, 12))]
            points = {name: sum([result[3][result[2].index(name)] for result in results if name in result[2]])
                      for name in names}
            others = {name: sum([points[other] for result in results if name in result[2]
                                 for other in result[2] if other != name]) for name in names}
            wins = {name: len([result for result in results if name in result[2]
                               and result[3][result[2].index(name)] == max(result[3]) > min(result[3])])
                    for name in names}
            rows = [(name, points[name], others[name], wins[name]) for name in names]
            expected = sorted(rows, key=lambda row: (-row[1], -row[2], -row[3], names.index(row[0])))
            ahead = copy.deepcopy((names, results))
            self.assertEqual(standing(names, results), expected)
            self.assertEqual((names, results), ahead)

    def test_no_names(self):
        for thing in [*OTHERS, 0, ["ada"], ["ada", "ada"], [*NAMES, "kim"], ["ada", "Bob"], "ab", {"ada": 0, "bob": 0}]:
            for results in [[], None]:
                with self.assertRaises(NoPairing, msg=repr(thing)):
                    standing(thing, results)

    def test_no_results(self):
        right = ("a", 0, ("ada", "bob"), (2, 0))
        for thing in [None, True, 0, "", "ab", {}, {"a": right}, right]:
            with self.assertRaises(NoResult, msg=repr(thing)):
                standing(FOUR, thing)
        for thing in [*OTHERS, 0, list(right), ("a", 0, ("ada", "cyd"), (1, 1)), ("b", 0, ("ada", "eve"), (1, 1)),
                      ("b", 0, ("ada", "bob", "cyd"), (1, 1, 1)), ("b", 401, ("ada", "bob"), (1, 1)),
                      ("b", 0, ("ada", "bob"), (1, 5)), ("b", 0, ("ada", "bob"), (1,)), ("B", 0, ("ada", "bob"), (1, 1)),
                      ("b", 0, ("ada", "ada"), (1, 1)), ("b", 0, ["ada", "bob"], (1, 1)), right]:
            with self.assertRaises(NoResult, msg=repr(thing)):
                standing(FOUR, [right, thing])


if __name__ == "__main__":
    unittest.main()
