"""[4]: the refusals, their places in the family of errors, and their fields."""

import unittest

from playstead import errors

# Each refusal, and the field that it tells (None where it has none).
FIELDS = {
    "NoRule": None, "NoText": "row", "NoMove": "name", "NoPlayer": "player", "Over": None,
    "NoClock": None, "NoTime": "time", "Fallen": "player", "NoLetter": None, "NoKey": None,
    "NoTable": None, "NoEntry": "number", "NoNews": None, "Drift": "number", "NoWish": None,
    "TooMany": "most", "NoPlace": "at", "NoRecord": "row", "NoResult": None, "NoGame": "game",
    "NoLadder": None, "NoDay": "day", "NoName": "name", "NoCup": "cup", "NoPairing": None,
    "NoDeed": "at",
}

THINGS = [
    0, 7, -1, 10 ** 39, True, False, None, "", "abc", [], [1, [2]], (), (1, [2], {"a": [3]}),
    {}, {"a": [1], (0, 1): {"b": 2}},
]


class Family(unittest.TestCase):
    def test_all_are_there_and_no_other(self):
        found = [name for name in vars(errors) if isinstance(getattr(errors, name), type)]
        self.assertEqual(sorted(found), sorted([*FIELDS, "SteadError"]))
        self.assertEqual(len(FIELDS), 26)

    def test_stead_error_is_under_value_error(self):
        self.assertEqual(errors.SteadError.__bases__, (ValueError,))

    def test_each_is_straight_under_stead_error(self):
        for name in FIELDS:
            self.assertEqual(getattr(errors, name).__bases__, (errors.SteadError,), name)

    def test_each_is_caught_by_its_own_name_alone(self):
        for name in FIELDS:
            made = getattr(errors, name)() if FIELDS[name] is None else getattr(errors, name)(3)
            caught = [other for other in FIELDS if isinstance(made, getattr(errors, other))]
            self.assertEqual(caught, [name])
            with self.assertRaises(ValueError):
                raise made


    def test_its_word(self):
        for name in FIELDS:
            made = getattr(errors, name)() if FIELDS[name] is None else getattr(errors, name)(3)
            self.assertEqual(made.word(), name.lower())


class Fields(unittest.TestCase):
    def test_by_place_and_by_name(self):
        for name in FIELDS:
            field = FIELDS[name]
            if field is not None:
                for thing in THINGS:
                    made = getattr(errors, name)
                    self.assertEqual(repr(getattr(made(thing), field)), repr(thing), name)
                    self.assertEqual(repr(getattr(made(**{field: thing}), field)), repr(thing), name)

    def test_nothing_else_is_told(self):
        for name in FIELDS:
            made = getattr(errors, name)
            told = vars(made(3)) if FIELDS[name] is not None else vars(made())
            self.assertEqual(told, {} if FIELDS[name] is None else {FIELDS[name]: 3}, name)

    def test_what_is_told_is_the_askers_own(self):
        thing = [1, ([2],), {"a": [3]}]
        refusal = errors.NoMove(thing)
        thing[1][0].append(4)
        thing[2]["a"].append(5)
        thing.append(6)
        self.assertEqual(refusal.name, [1, ([2],), {"a": [3]}])
        refusal.name.append(7)
        refusal.name[2]["a"].append(8)
        self.assertEqual(thing, [1, ([2, 4],), {"a": [3, 5]}, 6])

    def test_what_is_nested_deep_is_refused_like_all_else(self):
        thing = []
        for _ in range(5000):
            thing = [thing]
        self.assertIsInstance(errors.NoMove(thing), errors.NoMove)


if __name__ == "__main__":
    unittest.main()
