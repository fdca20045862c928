"""What is built as an entry, of anything: entries as [50] tells them, built as [60] and [70] ask."""

import copy
import unittest

from makers import NO_TIMES, OTHERS, digest
from playstead.courses import is_entry
from playstead.letters import sealed

LETTER = sealed("key", digest, game="nim", player=0, place=1, deed=("give",))
OTHER = sealed("key", digest, game="nym", player=3, place=99, deed=("move", "up"))
RIGHT = [
    ("open", 0), ("open", 10 ** 39), ("deed", 0, LETTER), ("void", 5, OTHER), ("fall", 5, 0), ("fall", 0, 10 ** 39),
    ("two", 5, LETTER, OTHER), ("two", 0, OTHER, OTHER),
]


class Entries(unittest.TestCase):
    def test_right_ones(self):
        for entry in RIGHT:
            self.assertIs(is_entry(entry), True, entry)

    def test_others(self):
        wrong = [*OTHERS, 0, LETTER, ("x", 0), ("x", 0, LETTER), ("x", 0, 0), ("x", 0, LETTER, LETTER),
                 ("open", 0, LETTER)]
        for entry in RIGHT:
            wrong += [list(entry), entry[:-1], (*entry, 0), (*entry, LETTER), (entry,), entry[1:], (None, *entry[1:]),
                      ([entry[0]], *entry[1:]), (entry[0].upper(), *entry[1:])]
            wrong += [(entry[0], time, *entry[2:]) for time in NO_TIMES]
        for thing in [*OTHERS, -1]:
            wrong += [(word, 0, thing) for word in ["deed", "void", "fall"]]
            wrong += [("two", 0, LETTER, thing), ("two", 0, thing, LETTER)]
        wrong += [(word, 0, thing) for word in ["deed", "void"] for thing in [0, 5, list(LETTER), LETTER[:9],
                                                                              (*LETTER, 0)]]
        wrong += [("fall", 0, LETTER), ("two", 0, LETTER, LETTER[:9]), ("two", 0, LETTER[:9], LETTER)]
        for thing in wrong:
            ahead = copy.deepcopy(thing)
            self.assertIs(is_entry(thing), False, repr(thing))
            self.assertEqual(repr(thing), repr(ahead))


if __name__ == "__main__":
    unittest.main()
