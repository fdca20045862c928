"""[11]: rules, what is refused of them, what they tell, and when they are equal."""

import copy
import unittest

from playstead.errors import NoRule, SteadError
from playstead.rules import EVEN, LOSE, MOST, Rule

TAKE = ("take", 0, ((0, "is", 3), (1, "least", 0)), ((0, "add", -1), (1, "put", 2)))
PASS = ("pass", None, (), ((2, "put", 0),))
DONE = (((0, "is", 0), (2, "most", 4)), (2, 0))
ELSE = ((), (1, 1))

# What a rule is made of, all parts told.
WHOLE = {
    "start": [3, 0, 1],
    "moves": [TAKE, PASS],
    "players": 2,
    "ends": [DONE, ELSE],
    "most": 7,
    "stuck": EVEN,
}

NUMBERS = [-10 ** 39, -10, -1, 100, 10 ** 39]
OTHERS = [True, False, None, "", "0", "1", "a b", "A", "abcdefghi", {}, {0: 1}, [[]], [()], ((),), [None], (None,)]


def made(parts):
    """The rule of such parts, by place and by name as Rule has them."""
    named = {part: parts[part] for part in parts if part not in ("start", "moves")}
    return Rule(parts["start"], parts["moves"], **named)


def with_part(whole, path, thing):
    """A copy of nested parts in which the thing stands at the path."""
    if not path:
        return thing
    if isinstance(whole, dict):
        return {**whole, path[0]: with_part(whole[path[0]], path[1:], thing)}
    parts = list(whole)
    parts[path[0]] = with_part(parts[path[0]], path[1:], thing)
    return tuple(parts) if isinstance(whole, tuple) else parts


def part_at(whole, path):
    for step in path:
        whole = whole[step]
    return whole


# The places of each kind in WHOLE.
NUMBER_PLACES = [
    ("start", 0), ("start", 2), ("players",), ("most",),
    ("moves", 0, 2, 0, 0), ("moves", 0, 2, 0, 2), ("moves", 0, 2, 1, 0), ("moves", 0, 2, 1, 2),
    ("moves", 0, 3, 0, 0), ("moves", 0, 3, 0, 2), ("moves", 0, 3, 1, 0), ("moves", 0, 3, 1, 2),
    ("moves", 1, 3, 0, 0), ("moves", 1, 3, 0, 2),
    ("ends", 0, 0, 0, 0), ("ends", 0, 0, 0, 2), ("ends", 0, 0, 1, 0), ("ends", 0, 0, 1, 2),
    ("ends", 0, 1, 0), ("ends", 0, 1, 1), ("ends", 1, 1, 0), ("ends", 1, 1, 1),
]
BY_PLACES = [("moves", 0, 1), ("moves", 1, 1)]
NAME_PLACES = [("moves", 0, 0), ("moves", 1, 0)]
SIGN_PLACES = [("moves", 0, 2, 0, 1), ("moves", 0, 2, 1, 1), ("ends", 0, 0, 0, 1), ("ends", 0, 0, 1, 1)]
WORD_PLACES = [("moves", 0, 3, 0, 1), ("moves", 0, 3, 1, 1), ("moves", 1, 3, 0, 1)]
LIST_PLACES = [("start",), ("moves",), ("ends",)]
FIXED_PLACES = [
    ("moves", 0), ("moves", 1), ("moves", 0, 2, 0), ("moves", 0, 2, 1), ("moves", 0, 3, 0), ("moves", 0, 3, 1),
    ("moves", 1, 3, 0), ("ends", 0), ("ends", 1), ("ends", 0, 0, 0), ("ends", 0, 0, 1), ("ends", 0, 1),
    ("ends", 1, 1),
]
TESTS_PLACES = [("moves", 0, 2), ("moves", 1, 2), ("ends", 0, 0), ("ends", 1, 0)]
CHANGES_PLACES = [("moves", 0, 3), ("moves", 1, 3)]
TUPLE_PLACES = FIXED_PLACES + TESTS_PLACES + CHANGES_PLACES


class RuleCase(unittest.TestCase):
    def refused(self, parts):
        ahead = copy.deepcopy(parts)
        with self.assertRaises(NoRule, msg=repr(parts)) as caught:
            made(parts)
        self.assertIsInstance(caught.exception, SteadError)
        # What is refused changes nothing that was handed in.
        self.assertEqual(repr(parts), repr(ahead))

    def taken(self, parts):
        ahead = copy.deepcopy(parts)
        told = made(parts).told()
        self.assertEqual(repr(parts), repr(ahead))
        full = {"players": 2, "ends": (), "most": 40, "stuck": "lose", **parts}
        self.assertEqual(told, (
            tuple(full["start"]), tuple(full["moves"]), full["players"],
            tuple(full["ends"]), full["most"], full["stuck"],
        ))

    def refused_at(self, path, thing):
        self.refused(with_part(WHOLE, path, thing))

    def taken_at(self, path, thing):
        self.taken(with_part(WHOLE, path, thing))


class Made(RuleCase):
    def test_constants(self):
        self.assertEqual((MOST, LOSE, EVEN), (40, "lose", "even"))

    def test_told(self):
        self.assertEqual(made(WHOLE).told(), ((3, 0, 1), (TAKE, PASS), 2, (DONE, ELSE), 7, "even"))

    def test_told_as_tuples(self):
        told = made(WHOLE).told()
        for part in [told, told[0], told[1], told[3]]:
            self.assertIs(type(part), tuple)

    def test_tuples_for_lists(self):
        tuples = {**WHOLE, "start": (3, 0, 1), "moves": (TAKE, PASS), "ends": (DONE, ELSE)}
        self.taken(tuples)
        self.assertEqual(made(tuples), made(WHOLE))
        for place in ["start", "moves", "ends"]:
            self.assertEqual(made({**WHOLE, place: tuple(WHOLE[place])}).told(), made(WHOLE).told())

    def test_in_the_order_handed_in(self):
        turned = {**WHOLE, "start": [1, 0, 3], "moves": [PASS, TAKE], "ends": [ELSE, DONE]}
        self.assertEqual(made(turned).told(), ((1, 0, 3), (PASS, TAKE), 2, (ELSE, DONE), 7, "even"))

    def test_tests_and_changes_in_the_order_handed_in(self):
        move = ("go", 1, ((2, "is", 1), (0, "is", 1), (2, "is", 1)), ((2, "add", 1), (0, "add", 1)))
        self.assertEqual(Rule([0, 0, 0], [move]).told()[1], (move,))

    def test_by_place_and_by_name(self):
        self.assertEqual(Rule([3, 0, 1], [TAKE, PASS]), Rule(start=[3, 0, 1], moves=[TAKE, PASS]))
        self.assertEqual(Rule(**WHOLE), made(WHOLE))
        self.assertEqual(Rule([3, 0, 1], moves=[TAKE, PASS]), Rule([3, 0, 1], [TAKE, PASS]))

    def test_behind_the_star_by_name_alone(self):
        with self.assertRaises(TypeError):
            Rule([3, 0, 1], [PASS], 2)

    def test_each_default(self):
        self.assertEqual(Rule([3, 0, 1], [PASS]).told(), ((3, 0, 1), (PASS,), 2, (), 40, "lose"))
        told = made(WHOLE).told()
        rests = {"players": 2, "ends": (), "most": 40, "stuck": "lose"}
        for at, part in enumerate(["start", "moves", "players", "ends", "most", "stuck"]):
            if part in rests:
                rule = made({name: WHOLE[name] for name in WHOLE if name != part})
                self.assertEqual(rule.told(), (*told[:at], rests[part], *told[at + 1:]))
                self.assertEqual(rule, made({**WHOLE, part: rests[part]}))

    def test_changing_the_lists_later_changes_nothing(self):
        parts = {**WHOLE, "start": [3, 0, 1], "moves": [TAKE, PASS], "ends": [DONE, ELSE]}
        rule = made(parts)
        parts["start"][0] = 9
        parts["start"].append(5)
        parts["moves"].reverse()
        parts["moves"].pop()
        parts["ends"].clear()
        self.assertEqual(rule.told(), ((3, 0, 1), (TAKE, PASS), 2, (DONE, ELSE), 7, "even"))
        self.assertEqual(rule, made(WHOLE))

    def test_told_again_the_same(self):
        rule = made(WHOLE)
        self.assertEqual(rule.told(), rule.told())


class Bounds(RuleCase):
    """Each count and number at both of its bounds, and just beyond."""

    def bounds(self, path, low, high, parts=None):
        parts = WHOLE if parts is None else parts
        for number in [low, high]:
            self.taken(with_part(parts, path, number))
        for number in [low - 1, high + 1, *[far for far in NUMBERS if not low <= far <= high]]:
            self.refused(with_part(parts, path, number))

    def test_how_many_cells(self):
        for many in [1, 12]:
            self.taken({"start": [0] * many, "moves": [("go", 0, (), ((many - 1, "add", 1),))]})
        for many in [0, 13]:
            self.refused({"start": [0] * many, "moves": [("go", 0, (), ((0, "add", 1),))]})
            self.refused({"start": (0,) * many, "moves": [("go", 0, (), ((0, "add", 1),))]})

    def test_cells(self):
        for at in range(3):
            self.bounds(("start", at), 0, 9)

    def test_how_many_moves(self):
        moves = [("m" + sign, None, (), ((0, "put", 1),)) for sign in "abcdefghijklmnopq"]
        for many in [1, 16]:
            self.taken({"start": [0], "moves": moves[:many]})
            self.taken({"start": [0], "moves": tuple(moves[:many])})
        for many in [0, 17]:
            self.refused({"start": [0], "moves": moves[:many]})
            self.refused({"start": [0], "moves": tuple(moves[:many])})

    def test_names_of_moves(self):
        for name in ["a", "z", "abcdefgh"]:
            self.taken_at(("moves", 0, 0), name)
        for name in ["", "abcdefghi", "A", "a1", "a b", "a_", "1", "ab\n"]:
            self.refused_at(("moves", 0, 0), name)
            self.refused_at(("moves", 1, 0), name)

    def test_by(self):
        for players in [2, 3, 4]:
            parts = {**WHOLE, "players": players, "ends": []}
            self.bounds(("moves", 0, 1), 0, players - 1, parts)
            self.bounds(("moves", 1, 1), 0, players - 1, parts)
            self.taken(with_part(parts, ("moves", 0, 1), None))

    def test_players(self):
        self.bounds(("players",), 2, 4, {**WHOLE, "ends": []})

    def test_how_many_tests(self):
        for path in TESTS_PLACES:
            for many in range(5):
                self.taken_at(path, ((0, "is", 1),) * many)
            self.refused_at(path, ((0, "is", 1),) * 5)

    def test_tests(self):
        for path in [("moves", 0, 2), ("ends", 0, 0)]:
            for at in range(2):
                self.bounds((*path, at, 0), 0, 2)
                self.bounds((*path, at, 2), 0, 9)
                for sign in ["is", "least", "most"]:
                    self.taken_at((*path, at, 1), sign)
                    for n in [0, 9]:
                        self.taken_at((*path, at), (2, sign, n))
                    for n in [-1, 10]:
                        self.refused_at((*path, at), (2, sign, n))

    def test_tests_of_one_cell_may_stand_together(self):
        self.taken_at(("moves", 0, 2), ((0, "least", 1), (0, "most", 2), (0, "is", 9)))

    def test_how_many_changes(self):
        changes = tuple((cell, "put", cell) for cell in range(5))
        for many in [1, 2, 3, 4]:
            self.taken({"start": [0] * 6, "moves": [("go", 0, (), changes[:many])]})
        for many in [0, 5]:
            self.refused({"start": [0] * 6, "moves": [("go", 0, (), changes[:many])]})

    def test_changes(self):
        self.bounds(("moves", 1, 3, 0, 0), 0, 2)
        self.bounds(("moves", 1, 3, 0, 0), 0, 2, with_part(WHOLE, ("moves", 1, 3, 0, 1), "add"))
        self.bounds(("moves", 0, 3, 0, 2), -9, 9)
        self.bounds(("moves", 0, 3, 1, 2), 0, 9)
        self.taken_at(("moves", 0, 3, 0, 2), 0)

    def test_how_many_ends(self):
        for many in range(7):
            self.taken_at(("ends",), [DONE] * many)
            self.taken_at(("ends",), (ELSE,) * many)
        self.refused_at(("ends",), [DONE] * 7)
        self.refused_at(("ends",), (ELSE,) * 7)

    def test_points(self):
        for path in [("ends", 0, 1), ("ends", 1, 1)]:
            for player in range(2):
                self.bounds((*path, player), 0, 4)

    def test_as_many_points_as_players(self):
        for players in [2, 3, 4]:
            parts = {**WHOLE, "players": players}
            for many in range(6):
                parts["ends"] = [((), (1,) * many)]
                if many == players:
                    self.taken(parts)
                else:
                    self.refused(parts)

    def test_most(self):
        self.bounds(("most",), 1, 60)

    def test_stuck(self):
        for stuck in [LOSE, EVEN, "lose", "even"]:
            self.taken_at(("stuck",), stuck)
        for thing in ["", "win", "Lose", "lose ", "evens", 0, 1, [LOSE], (EVEN,), [], (), {"lose": 1}, True, None]:
            self.refused_at(("stuck",), thing)


class Strangers(RuleCase):
    """Things of other kinds, each at every place where it may stand."""

    def test_numbers(self):
        for path in NUMBER_PLACES:
            for thing in [*OTHERS, [], (), [1], (1,), [2], (2,)]:
                self.refused_at(path, thing)

    def test_by(self):
        for path in BY_PLACES:
            for thing in [*OTHERS, [], (), [0], (0,), "any"]:
                if thing is None:
                    self.taken_at(path, thing)
                else:
                    self.refused_at(path, thing)

    def test_names(self):
        for path in NAME_PLACES:
            for thing in [*OTHERS, *NUMBERS, 0, 1, [], (), ["go"], ("go",), {"go": 1}]:
                self.refused_at(path, thing)

    def test_signs_of_tests(self):
        for path in SIGN_PLACES:
            for thing in [*OTHERS, *NUMBERS, 0, 1, "put", "add", "Is", "is ", ["is"], ("is",), [], ()]:
                self.refused_at(path, thing)

    def test_words_of_changes(self):
        for path in WORD_PLACES:
            for thing in [*OTHERS, *NUMBERS, 0, 1, "is", "least", "most", "Put", "add ", ["put"], ("add",), [], ()]:
                self.refused_at(path, thing)

    def test_lists(self):
        for path in LIST_PLACES:
            for thing in [*OTHERS, *NUMBERS, 0, 1]:
                self.refused_at(path, thing)

    def test_tuples(self):
        for path in TUPLE_PLACES:
            for thing in [*OTHERS, *NUMBERS, 0, 1]:
                self.refused_at(path, thing)

    def test_lists_in_the_place_of_tuples(self):
        for path in TUPLE_PLACES:
            self.refused_at(path, list(part_at(WHOLE, path)))
        for path in TESTS_PLACES + CHANGES_PLACES:
            self.refused_at(path, [])

    def test_tuples_of_the_wrong_length(self):
        for path in FIXED_PLACES:
            right = part_at(WHOLE, path)
            for wrong in [(), right[:1], right[:-1], right[1:], (*right, right[-1]), (*right, None), (*right, 0)]:
                self.refused_at(path, wrong)

    def test_texts_in_the_place_of_lists_and_tuples(self):
        for path in LIST_PLACES + TUPLE_PLACES:
            for text in ["012", "abc", "ab", ""]:
                self.refused_at(path, text)


class Twice(RuleCase):
    def test_names_twice(self):
        self.refused_at(("moves", 1, 0), "take")
        self.refused_at(("moves",), [PASS, PASS])
        self.refused_at(("moves",), [PASS, TAKE, PASS])
        self.refused_at(("moves",), (TAKE, PASS, TAKE))

    def test_a_cell_twice_in_the_changes_of_one_move(self):
        self.refused_at(("moves", 0, 3), ((0, "add", -1), (0, "put", 2)))
        self.refused_at(("moves", 0, 3), ((1, "put", 2), (1, "put", 2)))
        self.refused_at(("moves", 1, 3), ((0, "put", 2), (1, "put", 2), (0, "add", 1)))

    def test_a_cell_in_the_changes_of_two_moves(self):
        self.taken_at(("moves", 1, 3), ((0, "add", -1), (1, "put", 2)))

    def test_an_end_twice(self):
        self.taken_at(("ends",), [DONE, DONE])


class Equal(RuleCase):
    def test_with_a_rule_of_the_same(self):
        self.assertTrue(made(WHOLE) == made(WHOLE))
        self.assertFalse(made(WHOLE) != made(WHOLE))

    def test_with_one_that_differs_in_one_part(self):
        others = [
            (("start", 0), 4), (("start",), [3, 0, 1, 0]), (("moves",), [TAKE]), (("moves",), [PASS, TAKE]),
            (("moves", 0, 0), "taken"), (("moves", 0, 1), 1), (("moves", 0, 1), None), (("moves", 0, 2), ()),
            (("moves", 0, 2, 0, 0), 2), (("moves", 0, 2, 0, 1), "most"), (("moves", 0, 2, 0, 2), 4),
            (("moves", 0, 3, 0, 0), 2), (("moves", 0, 3, 0, 2), -2), (("moves", 0, 3, 1, 1), "add"),
            (("moves", 0, 3), TAKE[3][:1]), (("ends",), [DONE]), (("ends",), [ELSE, DONE]), (("ends",), []),
            (("ends", 0, 0, 0, 2), 1), (("ends", 0, 1), (0, 2)), (("most",), 8), (("stuck",), LOSE),
        ]
        for path, thing in others:
            other = made(with_part(WHOLE, path, thing))
            self.assertFalse(made(WHOLE) == other, path)
            self.assertFalse(other == made(WHOLE), path)
            self.assertTrue(made(WHOLE) != other, path)

    def test_with_one_for_other_players(self):
        parts = {**WHOLE, "ends": []}
        self.assertFalse(made({**parts, "players": 3}) == made(parts))
        self.assertFalse(made({**parts, "players": 3}) == made({**parts, "players": 4}))

    def test_with_other_things(self):
        rule = made(WHOLE)
        for thing in [rule.told(), list(rule.told()), None, True, False, 0, 1, "", "rule", [], (), {}, WHOLE]:
            self.assertFalse(rule == thing, repr(thing))
            self.assertFalse(thing == rule, repr(thing))
            self.assertTrue(rule != thing, repr(thing))


if __name__ == "__main__":
    unittest.main()
