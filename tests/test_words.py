"""[10]: names, of anything."""

import unittest

from playstead.words import is_list, is_name, is_number, is_small, is_tuple, read_number

OTHERS = [
    0, 1, -1, 10 ** 39, True, False, None, [], ["a"], ["abc"], (), ("a",), ("a", "b"), {}, {"a": 1}, b"abc",
]


class Names(unittest.TestCase):
    def test_one_to_eight_small_letters(self):
        for text in ["a", "z", "ab", "move", "abcdefg", "abcdefgh", "zzzzzzzz"]:
            self.assertIs(is_name(text), True, text)

    def test_every_small_letter(self):
        for text in "abcdefghijklmnopqrstuvwxyz":
            self.assertIs(is_name(text), True, text)

    def test_no_other_sign(self):
        small = "abcdefghijklmnopqrstuvwxyz"
        for text in [chr(k) for k in range(32, 127) if chr(k) not in small] + ["\n"]:
            self.assertIs(is_name(text), False, text)
            self.assertIs(is_name("a" + text), False, text)
            self.assertIs(is_name(text + "a"), False, text)
            self.assertIs(is_name("a" + text + "b"), False, text)

    def test_small_letters_beyond_ascii_are_none(self):
        for text in ["\u00e9", "a\u00df", "\u03b1", "\u00aa"]:
            self.assertIs(is_name(text), False, text)

    def test_too_short_and_too_long(self):
        for text in ["", "abcdefghi", "abcdefghij", "a" * 8000]:
            self.assertIs(is_name(text), False, text)

    def test_other_kinds(self):
        for thing in OTHERS:
            self.assertIs(is_name(thing), False, repr(thing))

    def test_by_name(self):
        self.assertIs(is_name(thing="abc"), True)
        self.assertIs(is_name(thing="Abc"), False)
        self.assertIs(is_name(thing=None), False)

    def test_nothing_handed_in_is_changed(self):
        thing = ["a", {"b": ["c"]}]
        is_name(thing)
        self.assertEqual(thing, ["a", {"b": ["c"]}])


class Kinds(unittest.TestCase):
    """[3]: numbers are ints, True and False are none; tuples stand for lists, not lists for tuples."""

    def test_numbers(self):
        for number in [2, 3, 5]:
            self.assertIs(is_number(number, 2, 5), True)
        for thing in [1, 6, True, False, None, "3", [3], (3,), {3: 3}]:
            self.assertIs(is_number(thing, 0 if isinstance(thing, bool) else 2, 5), False, repr(thing))

    def test_numbers_without_bounds(self):
        for number in [-(10 ** 39), -1, 0, 1, 10 ** 39]:
            self.assertIs(is_number(number), True)
            self.assertIs(is_number(number, 0), number >= 0)
            self.assertIs(is_number(number, high=0), number <= 0)
        for thing in OTHERS[4:]:
            self.assertIs(is_number(thing), False, repr(thing))
            self.assertIs(is_number(thing, 0), False, repr(thing))

    def test_small_letters(self):
        for most in [6, 8, 20]:
            for many in range(most + 3):
                self.assertIs(is_small("k" * many, most), 1 <= many <= most)
        for thing in [*OTHERS, "A", "a b", "a1", "\u00e9"]:
            self.assertIs(is_small(thing, 20), False, repr(thing))

    def test_numbers_of_figures(self):
        for number in [0, 1, 9, 10, 99, 100, 10 ** 30, 10 ** 39]:
            self.assertEqual(read_number(str(number)), number)
            self.assertEqual(read_number(str(number), 2), number if number < 100 else None)
        for word in ["", "-1", "+1", "01", "00", "1.0", " 1", "1 ", "x", "1_0", "\u0663", "\u00b2", "9" * 41,
                     "9" * 8000]:
            self.assertIsNone(read_number(word), word)

    def test_tuples(self):
        for thing in [(), (1,), (1, 2)]:
            self.assertIs(is_tuple(thing, 0, 2), True)
        for thing in [(1, 2, 3), [], [1], "a", {}, None, 1, True]:
            self.assertIs(is_tuple(thing, 0, 2), False, repr(thing))
        self.assertIs(is_tuple((), 1, 2), False)

    def test_lists(self):
        for thing in [[], [1], [1, 2], (), (1,), (1, 2)]:
            self.assertIs(is_list(thing, 0, 2), True)
        for thing in [[1, 2, 3], (1, 2, 3), "a", {}, None, 1, True]:
            self.assertIs(is_list(thing, 0, 2), False, repr(thing))
        self.assertIs(is_list([], 1, 2), False)


if __name__ == "__main__":
    unittest.main()
