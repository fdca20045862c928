"""[40], [41]: letters."""

import copy
import random
import unittest

from makers import NO_NUMBERS, OTHERS, Digest, DigestFails, digest
from playstead.errors import NoKey, NoLetter
from playstead.letters import are_two, is_key, is_letter, is_sealed, letter_text, read_letter, sealed

MOST = 10 ** 30
PARTS = ["letter", "game", "player", "place", "ahead", "seen", "mark", "deed", "stamp", "seal"]
RIGHT = ("letter", "nim", 1, 7, 345, 12, 678, ("move", "one"), 90, 1234)
TEXT = "nim 1 7 345 12 678 move one 90 1234"
DEEDS = [("move", "a"), ("move", "abcdefgh"), ("move", "give"), ("give",), ("even",)]
NO_DEEDS = [
    *OTHERS, 0, 5, "give", "even", "move one", ["give"], ["move", "one"], ("move",), ("move", "one", "two"),
    ("give", "one"), ("even", "one"), ("give", None), ("Give",), ("gives",), ("one",), ("one", "move"), ("",), (None,),
    ("move", ""), ("move", "abcdefghi"), ("move", "A"), ("move", "a b"), ("move", None), ("move", 1), ("move", ["a"]),
    ("move", ("a",)), (("move", "one"),), ("give", "give"), (0,), (True,), (["give"],), ({},), {"move": "one"},
]
# The bounds of the numbers, None where there is none.
BOUNDS = {"player": (0, 3), "place": (1, 99), "ahead": (0, MOST), "seen": (0, None), "mark": (0, MOST),
          "stamp": (0, None), "seal": (0, MOST)}
GOOD = {"game": "nim", "player": 1, "place": 7, "deed": ("move", "one"), "ahead": 345, "seen": 12, "mark": 678,
        "stamp": 90}


def with_part(part, thing):
    at = PARTS.index(part)
    return (*RIGHT[:at], thing, *RIGHT[at + 1:])


def wrong_letters():
    """Things that are no letters for one part's sake, or for their kind."""
    for part in BOUNDS:
        low, high = BOUNDS[part]
        for thing in [low - 1, *([] if high is None else [high + 1, 10 ** 39]), -(10 ** 39), *NO_NUMBERS]:
            yield with_part(part, thing)
    for thing in NO_DEEDS:
        yield with_part("deed", thing)
    for thing in [*NO_NUMBERS, 0, "abcdefghi", "Nim", "n1", ["nim"], ("nim",), {"nim": 1}]:
        yield with_part("game", thing)
    for thing in [*NO_NUMBERS, 0, "Letter", "letters", ["letter"], ("letter",), "deed"]:
        yield with_part("letter", thing)
    yield list(RIGHT)
    yield RIGHT[:-1]
    yield RIGHT[1:]
    yield (*RIGHT, 0)
    yield (*RIGHT, None)
    yield (RIGHT,)
    yield [RIGHT]
    yield TEXT
    yield {part: 1 for part in PARTS}
    yield from NO_NUMBERS
    yield 5


class Kinds(unittest.TestCase):
    def test_letters(self):
        self.assertIs(is_letter(RIGHT), True)
        self.assertIs(is_letter(thing=RIGHT), True)
        for part in BOUNDS:
            low, high = BOUNDS[part]
            for number in [low, 10 ** 39 if high is None else high]:
                self.assertIs(is_letter(with_part(part, number)), True, (part, number))
        for deed in DEEDS:
            self.assertIs(is_letter(with_part("deed", deed)), True, deed)
        for game in ["a", "abcdefgh", "letter"]:
            self.assertIs(is_letter(with_part("game", game)), True, game)

    def test_no_letters(self):
        for thing in wrong_letters():
            ahead = copy.deepcopy(thing)
            self.assertIs(is_letter(thing), False, repr(thing))
            self.assertEqual(repr(thing), repr(ahead))

    def test_keys(self):
        for many in range(23):
            self.assertIs(is_key("k" * many), 1 <= many <= 20, many)
        self.assertIs(is_key(thing="abcdefghijklmnopqrst"), True)
        for thing in [*OTHERS, 0, 5, "Key", "key1", "a key", "key\n", "k-y", "\u00e9", ["key"], ("key",), {"key": 1}]:
            self.assertIs(is_key(thing), False, repr(thing))


class Texts(unittest.TestCase):
    def test_written(self):
        self.assertEqual(letter_text(RIGHT), TEXT)
        self.assertEqual(letter_text(letter=with_part("deed", ("give",))), "nim 1 7 345 12 678 give 90 1234")
        self.assertEqual(letter_text(with_part("deed", ("even",))), "nim 1 7 345 12 678 even 90 1234")
        self.assertEqual(
            letter_text(("letter", "a", 0, 1, 0, 0, MOST, ("move", "move"), 0, 0)), f"a 0 1 0 0 {MOST} move move 0 0",
        )

    def test_no_letter_is_written(self):
        for thing in wrong_letters():
            with self.assertRaises(NoLetter, msg=repr(thing)):
                letter_text(thing)

    def test_read_back(self):
        chance = random.Random(40)
        self.assertEqual(read_letter(TEXT), RIGHT)
        self.assertEqual(read_letter(text=TEXT), RIGHT)
        for deed in DEEDS:
            for _ in range(20):
                far = [chance.choice([0, 1, 9, 10, 10 ** 30, chance.randint(0, 10 ** 30)]) for _ in range(5)]
                letter = ("letter", chance.choice(["a", "abcdefgh"]), chance.randint(0, 3), chance.choice([1, 99]),
                          *far[:3], deed, *far[3:])
                read = read_letter(letter_text(letter))
                self.assertEqual(repr(read), repr(letter))

    def test_no_such_text(self):
        for text in [
            "", " ", "nim", f" {TEXT}", f"{TEXT} ", f"{TEXT}\n", f"\n{TEXT}", TEXT.replace(" ", "  ", 1),
            TEXT.replace(" one", "  one"), TEXT.replace(" ", "\n", 1), TEXT.replace(" ", ",", 1), f"letter {TEXT}",
            f"{TEXT} 1", TEXT[:-5], TEXT[4:], TEXT.replace("move", "moves"), TEXT.replace("move", "give"),
            TEXT.replace("move one", "move"), TEXT.replace("move one", "one"), TEXT.replace("move one", "give one"),
            TEXT.replace("move one", "Give"), TEXT.replace("move one", "even even"), TEXT.replace("move one", "give  "),
            TEXT.replace("one", "One"), TEXT.replace("one", "abcdefghi"), TEXT.replace("one", "1"),
            TEXT.replace("move one", "move one two"), TEXT.replace("nim", "Nim"), TEXT.replace("nim", "abcdefghi"),
            TEXT.replace("nim", "1"), TEXT.replace("nim", ""), TEXT.replace("nim 1", "nim x"),
            TEXT.replace("nim 1", "nim 4"), TEXT.replace("nim 1", "nim"), TEXT.replace("nim 1 7", "nim 1 0"),
            TEXT.replace("nim 1 7", "nim 1 100"), TEXT.replace("345", str(MOST + 1)),
            TEXT.replace("678", str(MOST + 1)),
            TEXT.replace("1234", str(MOST + 1)), TEXT.replace("345", "345.0"), TEXT.replace("345", "0x1"),
            TEXT.replace("345", "3_45"), TEXT.replace("345", "None"), TEXT.replace("12 678", "12 True"),
            TEXT.replace("345", "\u0663"), TEXT.replace("345", "\u00b2"), "9" * 8000, TEXT.replace("345", "9" * 5000),
        ]:
            with self.assertRaises(NoLetter, msg=repr(text)):
                read_letter(text)

    def test_each_number_told_otherwise(self):
        words = TEXT.split(" ")
        for at, word in enumerate(words):
            if word.isdigit():
                for other in [f"0{word}", f"00{word}", f"+{word}", f"-{word}", f"{word}-", "-0", "00", "", "x",
                              f"{word},"]:
                    text = " ".join([*words[:at], other, *words[at + 1:]])
                    with self.assertRaises(NoLetter, msg=repr(text)):
                        read_letter(text)

    def test_what_is_no_text(self):
        for thing in [*OTHERS, 0, 5, RIGHT, list(RIGHT), [TEXT], (TEXT,), {TEXT: 1}]:
            with self.assertRaises(NoLetter, msg=repr(thing)):
                read_letter(thing)

    def test_any_text_one_sign_off(self):
        chance = random.Random(41)
        for _ in range(4000):
            at = chance.randrange(len(TEXT) + 1)
            text = TEXT[:at] + chance.choice(["", *" 0123456789-+,abemnovgi\n"]) + TEXT[at + chance.choice([0, 1]):]
            try:
                letter = read_letter(text)
            except NoLetter:
                continue
            self.assertTrue(is_letter(letter))
            self.assertEqual(letter_text(letter), text)


class Seals(unittest.TestCase):
    def test_the_text_that_is_sealed(self):
        asking = Digest()
        letter = sealed("mykey", asking, **GOOD)
        told = "mykey nim 1 7 345 12 678 move one 90"
        self.assertEqual(letter, (*RIGHT[:9], digest(told)))
        self.assertEqual(set(asking.asked), {told})
        for deed, text in [(("give",), "give"), (("even",), "even")]:
            letter = sealed("k", digest, **{**GOOD, "deed": deed})
            self.assertEqual(letter[9], digest(f"k nim 1 7 345 12 678 {text} 90"))

    def test_what_is_left_out(self):
        letter = sealed(key="k", digest=digest, game="nim", player=0, place=1, deed=("give",))
        self.assertEqual(letter, ("letter", "nim", 0, 1, 0, 0, 0, ("give",), 0, digest("k nim 0 1 0 0 0 give 0")))
        for part in ["ahead", "seen", "mark", "stamp"]:
            parts = {name: GOOD[name] for name in GOOD if name != part}
            self.assertEqual(sealed("k", digest, **parts), sealed("k", digest, **{**parts, part: 0}))

    def test_behind_the_star_by_name_alone(self):
        with self.assertRaises(TypeError):
            sealed("k", digest, "nim", 1, 7, ("give",))

    def test_the_letter_is_one(self):
        for part, things in [("player", [0, 3]), ("place", [1, 99]), ("ahead", [0, MOST]), ("mark", [0, MOST]),
                             ("seen", [0, 10 ** 39]), ("stamp", [0, 10 ** 39]), ("deed", DEEDS),
                             ("game", ["a", "abcdefgh"])]:
            for thing in things:
                letter = sealed("k", digest, **{**GOOD, part: thing})
                self.assertTrue(is_letter(letter))
                self.assertEqual(letter[PARTS.index(part)], thing)
                self.assertTrue(is_sealed(letter, "k", digest))

    def test_no_key(self):
        for key in [*OTHERS, 0, "k" * 21, "K", "k ", ["k"], ("k",)]:
            asking = Digest()
            with self.assertRaises(NoKey, msg=repr(key)):
                sealed(key, asking, **GOOD)
            with self.assertRaises(NoKey, msg=repr(key)):
                sealed(key, asking, **{**GOOD, "game": None, "player": 9})
            self.assertEqual(asking.asked, [])

    def test_no_letter(self):
        asking = Digest()
        for part in GOOD:
            if part in BOUNDS:
                low, high = BOUNDS[part]
                wrong = [low - 1, *([] if high is None else [high + 1]), *NO_NUMBERS]
            else:
                wrong = NO_DEEDS if part == "deed" else [*NO_NUMBERS, 5, "abcdefghi", ["nim"]]
            for thing in wrong:
                with self.assertRaises(NoLetter, msg=(part, thing)):
                    sealed("k", asking, **{**GOOD, part: thing})
        self.assertEqual(asking.asked, [])

    def test_is_sealed(self):
        letter = sealed("mykey", digest, **GOOD)
        self.assertIs(is_sealed(letter, "mykey", digest), True)
        self.assertIs(is_sealed(letter=letter, key="mykey", digest=digest), True)
        self.assertIs(is_sealed(letter, "otherkey", digest), False)
        self.assertIs(is_sealed(letter, "mykey", lambda text: 5), False)
        self.assertIs(is_sealed((*letter[:9], 5), "mykey", lambda text: 5), True)
        self.assertIs(is_sealed((*letter[:9], (letter[9] + 1) % MOST), "mykey", digest), False)
        for part, thing in [("game", "nym"), ("player", 2), ("place", 8), ("ahead", 0), ("seen", 13), ("mark", 0),
                            ("deed", ("move", "two")), ("deed", ("give",)), ("stamp", 91)]:
            at = PARTS.index(part)
            self.assertIs(is_sealed((*letter[:at], thing, *letter[at + 1:]), "mykey", digest), False, part)

    def test_is_sealed_of_anything(self):
        asking = Digest()
        for thing in wrong_letters():
            self.assertIs(is_sealed(thing, "mykey", asking), False, repr(thing))
        letter = sealed("mykey", digest, **GOOD)
        for key in [*OTHERS, 0, "k" * 21, "Mykey", ["mykey"], ("mykey",)]:
            self.assertIs(is_sealed(letter, key, asking), False, repr(key))
        self.assertEqual(asking.asked, [])

    def test_a_digest_that_raises(self):
        asking = Digest()
        asking.fail_at(1)
        with self.assertRaises(DigestFails):
            sealed("k", asking, **GOOD)
        with self.assertRaises(DigestFails):
            is_sealed(RIGHT, "k", asking)

    def test_what_is_handed_in_stays(self):
        things = [[1], {"a": [2]}, ([3],)]
        ahead = copy.deepcopy(things)
        for thing in things:
            is_letter(thing), is_key(thing), is_sealed(thing, thing, digest), are_two(thing, thing)
        self.assertEqual(things, ahead)


class Two(unittest.TestCase):
    def test_unlike_in_one_part(self):
        for part, thing in [("ahead", 0), ("seen", 13), ("mark", 0), ("deed", ("give",)), ("deed", ("move", "two")),
                            ("stamp", 91), ("seal", 1)]:
            other = with_part(part, thing)
            self.assertIs(are_two(RIGHT, other), True, part)
            self.assertIs(are_two(other, RIGHT), True, part)
            self.assertIs(are_two(one=other, other=RIGHT), True, part)

    def test_of_unlike_places(self):
        for part, thing in [("game", "nym"), ("player", 2), ("place", 8)]:
            other = with_part(part, thing)
            for seal in [1234, 1]:
                self.assertIs(are_two(RIGHT, (*other[:9], seal)), False, part)
                self.assertIs(are_two((*other[:9], seal), RIGHT), False, part)

    def test_alike(self):
        self.assertIs(are_two(RIGHT, RIGHT), False)
        self.assertIs(are_two(RIGHT, tuple(list(RIGHT))), False)

    def test_of_anything(self):
        for thing in wrong_letters():
            self.assertIs(are_two(RIGHT, thing), False, repr(thing))
            self.assertIs(are_two(thing, RIGHT), False, repr(thing))
            self.assertIs(are_two(thing, thing), False, repr(thing))


if __name__ == "__main__":
    unittest.main()
