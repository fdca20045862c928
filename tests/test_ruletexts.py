"""[12]: rules as texts, and rules read from texts."""

import random
import re
import unittest

from playstead.errors import NoRule, NoText
from playstead.rules import EVEN, Rule
from playstead.ruletexts import read_rule, rule_text

WHOLE = Rule(
    [3, 0, 1],
    [
        ("take", 0, ((0, "is", 3), (1, "least", 2)), ((0, "add", -1), (1, "put", 0))),
        ("pass", None, (), ((2, "put", 9),)),
        ("then", 1, ((2, "most", 0),), ((0, "add", 9), (1, "add", -9), (2, "add", 0))),
    ],
    ends=[(((0, "is", 0),), (2, 0)), ((), (0, 4)), (((0, "least", 1), (1, "most", 2)), (1, 1))],
)
TEXT = (
    "rule 2 players, most 40, stuck lose\n"
    "cells 3 0 1\n"
    "move take by 0 when 0 is 3, 1 least 2 then 0 add -1, 1 put 0\n"
    "move pass by any then 2 put 9\n"
    "move then by 1 when 2 most 0 then 0 add 9, 1 add -9, 2 add 0\n"
    "end when 0 is 0 then 2 0\n"
    "end then 0 4\n"
    "end when 0 least 1, 1 most 2 then 1 1\n"
)
ROWS = TEXT.split("\n")[:-1]

# The forms of the rows, told a second time.
N = "(0|[1-9][0-9]?)"
TESTS = f"{N} (is|least|most) {N}(, {N} (is|least|most) {N})*"
CHANGE = f"{N} (put {N}|add (0|-?[1-9][0-9]?))"
HEAD = re.compile(f"rule {N} players, most {N}, stuck (lose|even)")
CELLS = re.compile(f"cells {N}( {N})*")
MOVE = re.compile(f"move [a-z]{{1,8}} by ({N}|any)( when {TESTS})? then {CHANGE}(, {CHANGE})*")
END = re.compile(f"end( when {TESTS})? then {N}( {N})*")


def wrong_row(text):
    """The number that NoText tells by these forms, None where the text is right by form."""
    rows = text.split("\n")
    ended = rows[-1] == ""
    if ended:
        rows.pop()
    had_end = False
    for at, row in enumerate(rows):
        if at < 2:
            right = (HEAD, CELLS)[at].fullmatch(row)
        elif END.fullmatch(row):
            right = had_end = True
        else:
            right = not had_end and MOVE.fullmatch(row)
        if not right:
            return at
    return None if ended and len(rows) >= 2 else len(rows)


class Case(unittest.TestCase):
    def no_text(self, text, row):
        with self.assertRaises(NoText, msg=repr(text)) as caught:
            read_rule(text)
        self.assertEqual(caught.exception.row, row, text)
        self.assertIs(type(caught.exception.row), int)

    def no_rule(self, text):
        with self.assertRaises(NoRule, msg=repr(text)):
            read_rule(text)

    def wrong(self, at, row):
        """A row in another's place is the first that isn't so by form, whatever stands behind it."""
        self.no_text("".join([f"{one}\n" for one in [*ROWS[:at], row, *ROWS[at + 1:]]]), at)
        self.no_text("".join([f"{one}\n" for one in [*ROWS[:at], row]]), at)
        if row != "":
            self.no_text("\n".join([*ROWS[:at], row]), at)


class Written(Case):
    def test_the_very_text(self):
        self.assertEqual(rule_text(WHOLE), TEXT)
        self.assertEqual(rule_text(rule=WHOLE), TEXT)

    def test_of_a_short_rule(self):
        rule = Rule([0], [("a", None, (), ((0, "put", 1),))], players=4, most=1, stuck=EVEN)
        text = "rule 4 players, most 1, stuck even\ncells 0\nmove a by any then 0 put 1\n"
        self.assertEqual(rule_text(rule), text)
        self.assertEqual(read_rule(text), rule)

    def test_cells_of_two_figures(self):
        rule = Rule([9] * 12, [("a", 3, ((11, "is", 9),), ((10, "put", 1),))], players=4, most=60)
        text = (
            "rule 4 players, most 60, stuck lose\ncells 9 9 9 9 9 9 9 9 9 9 9 9\n"
            "move a by 3 when 11 is 9 then 10 put 1\n"
        )
        self.assertEqual(rule_text(rule), text)
        self.assertEqual(read_rule(text), rule)

    def test_of_what_is_no_rule(self):
        for thing in [None, True, 0, "", TEXT, [], (), {}, WHOLE.told()]:
            with self.assertRaises(NoRule):
                rule_text(thing)


class Read(Case):
    def test_read_back(self):
        self.assertEqual(read_rule(TEXT), WHOLE)
        self.assertEqual(read_rule(text=TEXT), WHOLE)
        self.assertEqual(read_rule(TEXT).told(), WHOLE.told())

    def test_any_rule_is_read_back(self):
        chance = random.Random(12)
        for _ in range(300):
            rule = chance_rule(chance)
            text = rule_text(rule)
            self.assertIsNone(wrong_row(text))
            self.assertEqual(read_rule(text).told(), rule.told())

    def test_move_names_like_words(self):
        for name in ["move", "by", "any", "when", "then", "end", "is", "put", "add"]:
            for tests in [(), ((0, "is", 1),)]:
                rule = Rule([0], [(name, None, tests, ((0, "put", 1),))])
                self.assertEqual(read_rule(rule_text(rule)), rule)

    def test_needless_but_right_by_form(self):
        # A whole end twice, a test twice: the rule may have them.
        text = "".join([f"{row}\n" for row in [*ROWS, ROWS[-1]]])
        self.assertEqual(len(read_rule(text).told()[3]), 4)


class NoSuchForm(Case):
    def test_first_row(self):
        for row in [
            "", "rule", "Rule 2 players, most 40, stuck lose", "rules 2 players, most 40, stuck lose",
            "rule 2 players, most 40, stuck lost", "rule 2 players, most 40, stuck", "rule 2 players, most 40",
            "rule 2 players most 40, stuck lose", "rule 2 players, most 40 stuck lose",
            "rule 2, players, most 40, stuck lose", "rule 2 players,  most 40, stuck lose",
            "rule 2 players ,most 40, stuck lose", "rule 2 players,most 40, stuck lose",
            " rule 2 players, most 40, stuck lose", "rule 2 players, most 40, stuck lose ",
            "rule  2 players, most 40, stuck lose", "rule 02 players, most 40, stuck lose",
            "rule 2 players, most 040, stuck lose", "rule 2 players, most 400, stuck lose",
            "rule 200 players, most 40, stuck lose", "rule -2 players, most 40, stuck lose",
            "rule 2 players, most -40, stuck lose", "rule +2 players, most 40, stuck lose",
            "rule two players, most 40, stuck lose", "rule None players, most 40, stuck lose",
            "rule 2 players, most None, stuck lose", "rule 2 player, most 40, stuck lose",
            "rule 2 players, least 40, stuck lose", "rule 2 players, most 40, even",
            "rule 2 players, most 40, stuck any",
            "rule 2 players, most 40, stuck lose,", "rule 2 players, most 40, stuck lose, even", *ROWS[1:],
        ]:
            self.wrong(0, row)

    def test_cells(self):
        for row in [
            "", "cells", "cells ", "cell 3 0 1", "cells 3  0 1", "cells 3 0 1 ", " cells 3 0 1", "cells  3 0 1",
            "cells 3, 0, 1", "cells 3,0,1", "cells 03 0 1", "cells 3 00 1", "cells 3 0 100", "cells -3 0 1",
            "cells 3 -0 1", "cells 3 x 1", "cells +3 0 1", "3 0 1", "3", "Cells 3 0 1", "cells any", "cells None",
            "cells 3_0",
            ROWS[0], *ROWS[2:],
        ]:
            self.wrong(1, row)

    def test_moves(self):
        for row in [
            "", "move", "move take", "move take by 0", "move take by 0 then", "move take by 0 then ",
            "move take by 0 when 0 is 3", "move take by 0 when then 0 add 1", "move take by 0 when  then 0 add 1",
            "move by 0 then 0 add 1", "move take 0 then 0 add 1", "move take by then 0 add 1",
            "take by 0 then 0 add 1", "moves take by 0 then 0 add 1", "move take by 0 0 add 1",
            "move takeabcde by 0 then 0 add 1", "move Take by 0 then 0 add 1", "move t1 by 0 then 0 add 1",
            "move take by 00 then 0 add 1", "move take by -0 then 0 add 1", "move take by -1 then 0 add 1",
            "move take by 100 then 0 add 1", "move take by none then 0 add 1", "move take by None then 0 add 1",
            "move take  by 0 then 0 add 1", " move take by 0 then 0 add 1", "move take by 0 then 0 add 1 ",
            "move take by 0 then  0 add 1", "move take by 0 then 0  add 1", "move take by 0  then 0 add 1",
            "move take by 0 then 0 add -0", "move take by 0 then 0 add 01", "move take by 0 then 0 add -01",
            "move take by 0 then 0 add 100", "move take by 0 then 0 add -100", "move take by 0 then 0 add +1",
            "move take by 0 then 0 add --1", "move take by 0 then 0 add -", "move take by 0 then 0 add",
            "move take by 0 then 0 put -1", "move take by 0 then 0 put -0", "move take by 0 then 0 put 01",
            "move take by 0 then 0 put 100", "move take by 0 then 00 put 1", "move take by 0 then -1 put 1",
            "move take by 0 then 100 put 1", "move take by 0 then 0 puts 1", "move take by 0 then 0 is 1",
            "move take by 0 then put 1", "move take by 0 then 0 1", "move take by 0 then 0 put 1 2",
            "move take by 0 then 0 put 1,1 add 1", "move take by 0 then 0 put 1 , 1 add 1",
            "move take by 0 then 0 put 1,  1 add 1", "move take by 0 then 0 put 1 1 add 1",
            "move take by 0 then 0 put 1,", "move take by 0 then 0 put 1, ", "move take by 0 then , 0 put 1",
            "move take by 0, then 0 put 1", "move take by 0 then, 0 put 1",
            "move take by 0 when 0 is -1 then 0 put 1", "move take by 0 when 0 is 01 then 0 put 1",
            "move take by 0 when 0 is 100 then 0 put 1", "move take by 0 when 100 is 1 then 0 put 1",
            "move take by 0 when 0 are 1 then 0 put 1", "move take by 0 when 0 put 1 then 0 put 1",
            "move take by 0 when 0 is 1, then 0 put 1", "move take by 0 when 0 is 1,1 is 1 then 0 put 1",
            "move take by 0 when 0 is 1 1 is 1 then 0 put 1", "move take by 0 when 0 is then 0 put 1",
            "move take by 0 where 0 is 1 then 0 put 1", "move take by 0 if 0 is 1 then 0 put 1",
            "move take by 0 then None put 1", "move take by 0 then 0 put None", "move take by 0 then 0 add None",
            "move take by 0 when None is 1 then 0 put 1", "move take by 0 when 0 is None then 0 put 1",
            "move take by 0 when 0 is 1 then 0 put 1 then 0 put 1", "move take by 0 then 0 put 1 when 0 is 1",
            ROWS[0], ROWS[1],
        ]:
            self.wrong(2, row)
            self.wrong(4, row)

    def test_ends(self):
        for row in [
            "", "end", "end ", "end then", "end then ", "end 2 0", "end when 0 is 0", "end when then 2 0",
            "end when  then 2 0", "ends then 2 0", "End then 2 0", "end  then 2 0", "end then  2 0", "end then 2  0",
            "end then 2 0 ", " end then 2 0", "end then 2, 0", "end then 2,0", "end then 02 0", "end then 2 -0",
            "end then -2 0", "end then 2 100", "end then 2 any", "end by 0 then 2 0", "end when 0 is 0, then 2 0",
            "end when 0 is 0,1 is 0 then 2 0", "end when 0 is 0 then 2 0 then 2 0", "end when 0 is -1 then 2 0",
            "end when 0 is 00 then 2 0", "end when 0 was 0 then 2 0", "end if 0 is 0 then 2 0",
            "end then None 0", "end when None is 0 then 2 0", "end when 0 is None then 2 0", "end when 0 is 0 then",
            "end when 0 is 0 2 0", "then 2 0", " then 2 0", "2 0", ROWS[0], ROWS[1],
        ]:
            self.wrong(5, row)
            self.wrong(7, row)

    def test_a_move_behind_an_end(self):
        self.wrong(6, ROWS[3])
        self.wrong(7, ROWS[3])
        self.no_text("".join([f"{row}\n" for row in [*ROWS, ROWS[2]]]), 8)
        self.no_text("".join([f"{row}\n" for row in [*ROWS[:2], ROWS[6], *ROWS[2:]]]), 3)

    def test_a_row_twice_left_out_or_elsewhere(self):
        for at, first in [(0, 1), (1, 2)]:
            self.no_text("".join([f"{row}\n" for row in [*ROWS[:at], ROWS[at], *ROWS[at:]]]), first)
        for at in [0, 1]:
            self.no_text("".join([f"{row}\n" for row in [*ROWS[:at], *ROWS[at + 1:]]]), at)
        for one in range(len(ROWS)):
            for other in range(one):
                rows = list(ROWS)
                rows[one], rows[other] = rows[other], rows[one]
                text = "".join([f"{row}\n" for row in rows])
                if wrong_row(text) is not None:
                    self.no_text(text, wrong_row(text))

    def test_a_row_more_behind_the_last(self):
        for row in ["", " ", "over", "cells 1"]:
            self.no_text(f"{TEXT}{row}\n", 8)
        self.no_text(f"{TEXT} ", 8)
        self.no_text(f"\n{TEXT}", 0)

    def test_rows_that_lack(self):
        self.no_text("", 0)
        self.no_text("\n", 0)
        self.no_text(f"{ROWS[0]}\n", 1)
        self.no_text(ROWS[0], 1)
        self.no_text(f"{ROWS[1]}\n", 0)

    def test_the_last_line_feed_lacks(self):
        for many in range(2, len(ROWS) + 1):
            self.no_text("\n".join(ROWS[:many]), many)

    def test_the_wrong_row_comes_first(self):
        self.no_text("rule", 0)
        self.no_text(f"{ROWS[0]}\ncells", 1)
        self.no_text("\n".join([*ROWS, "over"]), 8)
        # Ahead of what tells no rule, too.
        self.no_text(TEXT.replace("cells 3 0 1", "cells 10 0 1").replace("end then 0 4", "end then"), 6)

    def test_other_line_ends_are_none(self):
        self.no_text(TEXT.replace("\n", "\n\n"), 1)
        self.no_text(TEXT.replace("\n", " "), 0)

    def test_what_is_no_text(self):
        for thing in [None, True, False, 0, 5, [], [TEXT], (), (TEXT,), {}, {TEXT: 1}, WHOLE]:
            self.no_text(thing, 0)

    def test_each_text_one_sign_off(self):
        chance = random.Random(7)
        signs = " ,0123456789-abdehilmnoprstuwy\n"
        for _ in range(6000):
            at = chance.randrange(len(TEXT) + 1)
            cut = chance.choice([0, 1, 1, 2])
            text = TEXT[:at] + chance.choice(["", *signs]) + TEXT[at + cut:]
            row = wrong_row(text)
            if row is not None:
                self.no_text(text, row)
            else:
                try:
                    rule = read_rule(text)
                except NoRule:
                    continue
                self.assertEqual(rule_text(rule), text)


class RightByForm(Case):
    """Texts that are right by form and tell no rule."""

    def test_no_moves(self):
        self.no_rule(f"{ROWS[0]}\n{ROWS[1]}\n")
        self.no_rule("".join([f"{row}\n" for row in [*ROWS[:2], *ROWS[5:]]]))

    def test_numbers_beyond(self):
        for old, new in [
            ("rule 2", "rule 1"), ("rule 2", "rule 5"), ("rule 2", "rule 0"), ("rule 2", "rule 99"),
            ("rule 2", "rule 3"),
            ("most 40", "most 0"), ("most 40", "most 61"), ("cells 3", "cells 10"), ("cells 3 0 1", "cells 3 0"),
            ("cells 3 0 1", "cells 1" + " 1" * 12), ("by 0", "by 2"), ("by 0", "by 99"), ("when 0 is 3", "when 3 is 3"),
            ("when 0 is 3", "when 0 is 10"), ("0 add -1", "0 add -10"), ("0 add 9", "0 add 10"), ("put 0", "put 10"),
            ("then 0 add -1", "then 3 add -1"), ("then 2 0", "then 5 0"), ("then 2 0", "then 2"),
            ("then 2 0", "then 2 0 1"), ("end when 0 is 0", "end when 0 is 10"), ("end when 0 is 0", "end when 3 is 0"),
        ]:
            text = TEXT.replace(old, new, 1)
            self.assertNotEqual(text, TEXT)
            self.no_rule(text)

    def test_too_many(self):
        test = ", ".join(["0 is 1"] * 5)
        self.no_rule(TEXT.replace("when 0 is 3, 1 least 2", f"when {test}"))
        self.no_rule(TEXT.replace("end when 0 is 0", f"end when {test}"))
        changes = ", ".join([f"{cell} put 1" for cell in range(5)])
        self.no_rule(f"{ROWS[0]}\ncells 0 0 0 0 0\nmove a by any then {changes}\n")
        moves = "".join([f"move m{sign} by any then 0 put 1\n" for sign in "abcdefghijklmnopq"])
        self.no_rule(f"{ROWS[0]}\n{ROWS[1]}\n{moves}")
        self.no_rule(TEXT + "end then 1 1\n" * 4)

    def test_a_name_twice(self):
        self.no_rule("".join([f"{row}\n" for row in [*ROWS[:3], ROWS[2], *ROWS[3:]]]))
        self.no_rule(TEXT.replace("move pass", "move take"))

    def test_a_cell_twice(self):
        self.no_rule(TEXT.replace("0 add -1, 1 put 0", "1 add -1, 1 put 0"))


def chance_tests(chance, cells):
    return tuple([
        (chance.randrange(cells), chance.choice(["is", "least", "most"]), chance.randrange(10))
        for _ in range(chance.randrange(5))
    ])


def chance_changes(chance, cells):
    changes = []
    for cell in chance.sample(range(cells), chance.randint(1, min(4, cells))):
        if chance.random() < 0.5:
            changes.append((cell, "put", chance.randint(0, 9)))
        else:
            changes.append((cell, "add", chance.randint(-9, 9)))
    return tuple(changes)


def chance_rule(chance):
    cells, players = chance.randint(1, 12), chance.randint(2, 4)
    names = chance.sample(["a", "then", "when", "by", "move", "end", "any", "abcdefgh", "is", "put"],
                          chance.randint(1, 10))
    moves = [
        (name, chance.choice([None, *range(players)]), chance_tests(chance, cells), chance_changes(chance, cells))
        for name in names
    ]
    ends = [
        (chance_tests(chance, cells), tuple([chance.randint(0, 4) for _ in range(players)]))
        for _ in range(chance.randrange(7))
    ]
    start = [chance.randint(0, 9) for _ in range(cells)]
    return Rule(
        start, moves, players=players, ends=ends, most=chance.randint(1, 60), stuck=chance.choice(["lose", "even"]),
    )


if __name__ == "__main__":
    unittest.main()
