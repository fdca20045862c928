"""[70], [71], [72]: records, as texts, looked at entry by entry, and played again."""

import copy
import random
import unittest

from makers import (
    KEYS, NO_NUMBERS, NO_TIMES, OTHERS, Digest, DigestFails, chance_table, digest, flat_clock, letter_to, long_rule,
    take_rule,
)
from playstead.clocks import Clock
from playstead.errors import NoClock, NoEntry, NoKey, NoPlayer, NoRecord, NoRule, NoTime
from playstead.letters import sealed
from playstead.records import Replay, flaw, read_record, record_of, record_text
from playstead.rules import Rule
from playstead.tables import Table
from playstead.worlds import World

UP, DOWN, GIVE, EVEN = ("move", "up"), ("move", "down"), ("give",), ("even",)
ONE = ("letter", "nim", 0, 1, 0, 2, 77, ("move", "one"), 3, 12345)
TWO = ("letter", "nim", 0, 1, 0, 0, 0, ("give",), 0, 9)
OTHER = ("letter", "nim", 1, 1, 0, 0, 0, ("even",), 10 ** 12, 10 ** 30)
TOLD = (2, 60, "flat", 0, 0, 5)
ENTRIES = (("open", 0), ("deed", 4, ONE), ("void", 5, OTHER), ("fall", 70, 1), ("two", 71, ONE, TWO))
TEXT = """record nim
rule 2 players, most 12, stuck lose
cells 5
move one by any then 0 add -1
move two by any then 0 add -2
end when 0 is 0 then 2 0
clock 2 60 flat 0 0 5
open 0
deed 4 nim 0 1 0 2 77 move one 3 12345
void 5 nim 1 1 0 0 0 even 1000000000000 1000000000000000000000000000000
fall 70 1
two 71 nim 0 1 0 2 77 move one 3 12345 / nim 0 1 0 0 0 give 0 9
"""


def text_rule():
    return take_rule(most=12, ends=[(((0, "is", 0),), (2, 0))])


def text_record():
    return ("nim", text_rule(), TOLD, ENTRIES)


class Case(unittest.TestCase):
    def no_record(self, row, do):
        with self.assertRaises(NoRecord) as caught:
            do()
        self.assertEqual(caught.exception.row, row)


class Built(Case):
    """What a record is, and what is none."""

    def wrongs(self):
        game, rule, told, entries = text_record()
        wrong = [*OTHERS, 0, list(text_record()), text_record()[:3], (*text_record(), 0)]
        wrong += [(thing, rule, told, entries) for thing in [*NO_NUMBERS, 0, "Nim", "abcdefghi"]]
        wrong += [(game, thing, told, entries) for thing in [*OTHERS, 0, rule.told(), World(rule)]]
        tolds = [*OTHERS, 0, list(told), told[:5], (*told, 0), flat_clock(), (3, *told[1:]), (1, *told[1:]),
                 (True, *told[1:]), (2, 0, *told[2:]), (2, 10001, *told[2:]), (2, True, *told[2:]),
                 (2, 60, "slow", 0, 0, 5), (2, 60, None, 0, 0, 5), (2, 60, "flat", 1001, 0, 5),
                 (2, 60, "flat", -1, 0, 5), (2, 60, "flat", 0, 6, 5), (2, 60, "flat", 0, 0, 1001),
                 (2, 60, "flat", 0, 0, False), (2, 60, "parts", 0, 3, 0)]
        wrong += [(game, rule, thing, entries) for thing in tolds]
        wrong += [(game, take_rule(players=3), told, entries)]
        wrong += [(game, rule, told, thing) for thing in [None, True, 0, "", "a", [], list(entries), {}, {0: 1}]]
        wrong += [(game, rule, told, (*entries, thing)) for thing in [*OTHERS, 0, list(entries[1]), *self.entries()]]
        return wrong

    def entries(self):
        wrong = [("open", 0, 0), ("open",), ("shut", 0), ("deed", 0), ("deed", 0, ONE, ONE), ("two", 0, ONE),
                 ("fall", 0), ("fall", 0, -1), ("two", 0, ONE, TWO, TWO)]
        for entry in ENTRIES:
            wrong += [(entry[0], time, *entry[2:]) for time in NO_TIMES]
        for thing in [*OTHERS, list(ONE), ONE[:9], (*ONE[:2], 4, *ONE[3:]), (*ONE[:3], 0, *ONE[4:]),
                      (*ONE[:3], True, *ONE[4:])]:
            wrong += [("deed", 0, thing), ("void", 0, thing), ("fall", 0, thing), ("two", 0, ONE, thing),
                      ("two", 0, thing, ONE)]
        return wrong

    def test_no_record(self):
        for thing in self.wrongs():
            ahead = repr(thing)
            for do in [record_text, flaw, Replay]:
                self.no_record(0, lambda: do(thing))
            self.no_record(0, lambda: flaw(thing, keys=5, digest=digest))
            self.assertEqual(repr(thing), ahead)

    def test_right_by_build_alone(self):
        game, rule, told, _ = text_record()
        for entries in [(), (("fall", 10 ** 39, 10 ** 39),), (("two", 0, ONE, OTHER),), ENTRIES[::-1]]:
            record_text((game, rule, told, entries))
            self.assertIn(flaw((game, rule, told, entries)), [None, 1])

    def test_no_table(self):
        for thing in [*OTHERS, 0, text_record(), flat_clock()]:
            self.no_record(0, lambda: record_of(thing))

    def test_record_of(self):
        rule, clock = take_rule(start=3), Clock(2, base=9, kind="grace", plus=2, credit=3)
        table = Table("nim", rule, clock, KEYS[:2], digest)
        told = (2, 9, "grace", 2, 0, 3)
        self.assertEqual(record_of(table), ("nim", rule, told, ()))
        table.starts(4)
        self.assertEqual(record_of(table=table), ("nim", rule, told, (("open", 4),)))
        early = record_of(table)
        letter = letter_to(table, 0, ("move", "one"))
        table.hear(letter, 6)
        self.assertEqual(record_of(table), ("nim", rule, told, (("open", 4), ("deed", 6, letter))))
        self.assertEqual(early, ("nim", rule, told, (("open", 4),)))
        table.tick(40)
        self.assertEqual(record_of(table)[3][2:], (("fall", 17, 1),))


class Texts(Case):
    def test_the_very_text(self):
        self.assertEqual(record_text(text_record()), TEXT)
        self.assertEqual(record_text(record=text_record()), TEXT)
        self.assertEqual(read_record(TEXT), text_record())
        self.assertEqual(read_record(text=TEXT), text_record())

    def test_of_no_entries_and_each_kind_of_clock(self):
        for told in [(3, 1, "plus", 1000, 0, 1000), (3, 10000, "grace", 0, 5, 0), (3, 7, "parts", 1, 5, 1)]:
            record = ("abcdefgh", take_rule(players=3), told, ())
            parts = " ".join([str(part) for part in told])
            text = record_text(record)
            self.assertEqual(text.splitlines()[-1], f"clock {parts}")
            self.assertEqual(read_record(text), record)
            self.assertEqual(type(read_record(text)[3]), tuple)

    def test_any_record_is_read_back(self):
        for seed in range(60):
            record = record_of(chance_table(random.Random(seed))[0])
            self.assertEqual(read_record(record_text(record)), record)


class NoSuchForm(Case):
    def wrong_rows(self, at, rows):
        good = TEXT.splitlines()
        for row in rows:
            text = "\n".join([*good[:at], row, *good[at + 1:]]) + "\n"
            self.no_record(at, lambda: read_record(text))

    def test_what_is_no_text(self):
        for thing in [*[thing for thing in OTHERS if type(thing) is not str], 0, [TEXT], (TEXT,), text_record()]:
            self.no_record(0, lambda: read_record(thing))

    def test_the_first_row(self):
        self.wrong_rows(0, [
            "", "record", "record ", "record Nim", "record abcdefghi", "record nim ", " record nim", "record  nim",
            "record nim nim", "record 5", "Record nim", "nim", "records nim", "rule nim", "record record nim",
        ])

    def test_the_rows_of_the_rule(self):
        self.wrong_rows(1, ["", "rule 2 players, most 12, stuck", "rule 02 players, most 12, stuck lose",
                            "clock 2 60 flat 0 0 5", "cells 5", "open 0"])
        self.wrong_rows(2, ["", "cells", "cells 05", "cells 5 ", "clock 2 60 flat 0 0 5", "open 0"])
        self.wrong_rows(3, ["", "move one by any", "open 0", "clock", "record nim", "cells 5"])
        self.wrong_rows(4, ["end when 0 is 0 then 2 0 ", "move two by any then 0 add -02", "deed"])
        self.wrong_rows(5, ["", "end then", "End then 2 0"])

    def test_the_clock(self):
        self.wrong_rows(6, [
            "clock 2 60 flat 0 0", "clock 2 60 flat 0 0 5 0", "clock 2 60 flat 0 0 05", "clock 2 60 flat 0 0 5 ",
            "clock  2 60 flat 0 0 5", "clock 2  60 flat 0 0 5", " clock 2 60 flat 0 0 5", "clock 2 60 Flat 0 0 5",
            "clock 2 60 abcdefghi 0 0 5", "clock 2 60 7 0 0 5", "clock two 60 flat 0 0 5", "clock 2 -60 flat 0 0 5",
            "clock 2 60 flat 00 0 5", "clock 2 060 flat 0 0 5", "clock 2 60 flat 0 x 5", "clocks 2 60 flat 0 0 5",
            "clock", "clock ", "Clock 2 60 flat 0 0 5", "clock 2 +60 flat 0 0 5", "clock clock 2 60 flat 0 0 5",
            "clock 2 60  0 0 5", "clock 60 2 0 flat 0 5", "clock -2 60 flat 0 0 5", "clock 2 6_0 flat 0 0 5",
        ])

    def test_open(self):
        self.wrong_rows(7, ["", "open", "open ", "open 00", "open 01", "open -1", "open x", "open 0 ", " open 0",
                            "open  0", "open 0 0", "opens 0", "Open 0", "open +1", "open 0 " + TEXT.splitlines()[8][7:],
                            "open 1_0", "open 0.5", "move one by any then 0 add -1", "end then 2 0", "record nim",
                            "clock 2 60 flat 0 0 5", "cells 5"])

    def test_deed_and_void(self):
        for at, word in [(8, "deed"), (9, "void")]:
            letter = TEXT.splitlines()[8][7:]
            parts = letter.split(" ")
            wrong = [f"{word}", f"{word} 4", f"{word} 4 ", f"{word} 04 {letter}", f"{word} -4 {letter}",
                     f"{word} {letter}", f"{word} 4  {letter}", f"{word}  4 {letter}", f"{word} 4 {letter} ",
                     f" {word} 4 {letter}", f"{word}s 4 {letter}", f"{word} 4 {letter} / {letter}",
                     f"{word} 4 / {letter}", f"{word} 4 5 {letter}", f"{word} x {letter}", f"shut 4 {letter}",
                     f"open 4 {letter}", f"fall 4 {letter}", f"two 4 {letter}"]
            for k, part in enumerate(parts):
                others = [*parts[:k], *parts[k + 1:]], [*parts[:k], part, *parts[k:]], [*parts[:k], "X", *parts[k + 1:]]
                others += ([*parts[:k], "0" + part, *parts[k + 1:]], [*parts[:k], "", *parts[k + 1:]],
                           [*parts[:k], part + " ", *parts[k + 1:]], [*parts[:k], "-1", *parts[k + 1:]])
                wrong += [f"{word} 4 " + " ".join(other) for other in others]
            wrong += [f"{word} 4 nim 4 1 0 2 77 move one 3 1", f"{word} 4 nim 0 0 0 2 77 move one 3 1",
                      f"{word} 4 nim 0 100 0 2 77 move one 3 1", f"{word} 4 nim 0 1 0 2 77 sing 3 1"]
            self.wrong_rows(at, wrong)

    def test_fall(self):
        self.wrong_rows(10, ["fall", "fall 70", "fall 70 ", "fall 70 01", "fall 070 1", "fall 70 1 ", "fall 70 1 1",
                             "fall 70  1", "fall  70 1", "fall 70 -1", "fall -70 1", "fall 70 x", " fall 70 1",
                             "fall 70 one", "Fall 70 1", "fall 70 1 / 1", "two 70 1", "deed 70 1", "open 70 1"])

    def test_two(self):
        one, other = TEXT.splitlines()[-1][7:].split(" / ")
        self.wrong_rows(11, [
            f"two 71 {one}", f"two 71 {one} / ", f"two 71 / {one}", f"two 71 {one} {other}", f"two 71 {one}/ {other}",
            f"two 71 {one} /{other}", f"two 71 {one}  / {other}", f"two 71 {one} /  {other}", f"two 71 {one} / {other} ",
            f"two 071 {one} / {other}", f"two {one} / {other}", f"two 71 {one} / {other} / {other}", "two 71", "two",
            f"two 71 {one} / 5", f"two 71 5 / {other}", f"Two 71 {one} / {other}", f"two  71 {one} / {other}",
            f"two 71  {one} / {other}", f"two 71 {one} // {other}", f"two 71 {one} , {other}",
        ])

    def test_rows_that_lack(self):
        rows = TEXT.splitlines()
        for many in range(7):
            text = "".join([row + "\n" for row in rows[:many]])
            self.no_record(many, lambda: read_record(text))
            # Where a row lacks, it doesn't tell whether the last line feed does, too.
            self.no_record(many, lambda: read_record(text.removesuffix("\n")))

    def test_the_last_line_feed_lacks(self):
        rows = TEXT.splitlines()
        for many in range(7, len(rows) + 1):
            text = "\n".join(rows[:many])
            self.no_record(many, lambda: read_record(text))
            self.assertEqual(read_record(text + "\n")[3], ENTRIES[:many - 7])

    def test_a_row_twice_left_out_or_elsewhere(self):
        rows = TEXT.splitlines()
        for at, places in [(0, (0, 1)), (1, (1, 2)), (2, (2, 3)), (6, (7, 7))]:
            without = "".join([row + "\n" for row in [*rows[:at], *rows[at + 1:]]])
            twice = "".join([row + "\n" for row in [*rows[:at], rows[at], *rows[at:]]])
            self.no_record(at, lambda: read_record(without))
            self.no_record(at + 1, lambda: read_record(twice))
            for k in range(3):
                if k > at:
                    moved = [*rows[:at], *rows[at + 1:k + 1], rows[at], *rows[k + 1:]]
                    self.no_record(at, lambda: read_record("".join([row + "\n" for row in moved])))
        # Where the clock's row comes early, it is the rule's next row that is no entry.
        for row, at, wrong in [(rows[7], 3, 3), (rows[7], 6, 6), (rows[6], 3, 4), (rows[3], 6, 6), (rows[3], 8, 8),
                               (rows[5], 12, 12)]:
            moved = [*rows[:at], row, *rows[at:]]
            self.no_record(wrong, lambda: read_record("".join([one + "\n" for one in moved])))

    def test_a_row_more(self):
        many = len(TEXT.splitlines())
        for row in ["", " ", "x", "over", "end then 2 0"]:
            self.no_record(many, lambda: read_record(TEXT + row + "\n"))
        self.no_record(many, lambda: read_record(TEXT + " "))

    def test_the_first_wrong_row_comes(self):
        rows = TEXT.splitlines()
        for one in range(len(rows)):
            for other in range(one + 1, len(rows)):
                text = "\n".join(["X" if at in (one, other) else row for at, row in enumerate(rows)])
                self.no_record(one, lambda: read_record(text))

    def test_each_text_one_sign_off(self):
        # What is read is written just so: no two texts tell one record.
        for at in range(len(TEXT)):
            for text in [TEXT[:at] + TEXT[at + 1:], TEXT[:at] + " " + TEXT[at:], TEXT[:at] + "0" + TEXT[at:],
                         TEXT[:at] + "x" + TEXT[at + 1:], TEXT[:at] + "\n" + TEXT[at:]]:
                try:
                    record = read_record(text)
                except (NoRecord, NoRule, NoClock):
                    continue
                self.assertEqual(record_text(record), text)


class RightByForm(Case):
    def test_no_rule(self):
        for one, other in [("rule 2", "rule 5"), ("most 12", "most 0"), ("most 12", "most 61"), ("then 0 add", "then 1 add"),
                           ("move two", "move one"), ("then 2 0", "then 2 0 0"), ("then 2 0", "then 2 5")]:
            with self.assertRaises(NoRule):
                read_record(TEXT.replace(one, other))
        rows = TEXT.splitlines()
        with self.assertRaises(NoRule):
            read_record("".join([row + "\n" for row in [*rows[:3], *rows[6:]]]))

    def test_no_clock(self):
        for told in ["3 60 flat 0 0 5", "1 60 flat 0 0 5", "2 0 flat 0 0 5", "2 10001 flat 0 0 5", "2 60 slow 0 0 5",
                     "2 60 flat 1001 0 5", "2 60 flat 0 6 5", "2 60 flat 0 0 1001", "2 60 parts 0 0 5",
                     "99 60 flat 0 0 5", "2 123456789012345678901234567890 flat 0 0 5"]:
            with self.assertRaises(NoClock):
                read_record(TEXT.replace("2 60 flat 0 0 5", told))
        with self.assertRaises(NoClock):
            read_record(TEXT.replace("rule 2", "rule 3").replace("then 2 0", "then 2 0 0"))

    def test_the_order(self):
        no_clock = TEXT.replace("2 60 flat 0 0 5", "2 0 flat 0 0 5")
        with self.assertRaises(NoRule):
            read_record(no_clock.replace("most 12", "most 0"))
        self.no_record(12, lambda: read_record(no_clock.replace("most 12", "most 0") + "x\n"))
        self.no_record(12, lambda: read_record(no_clock.replace("most 12", "most 0").removesuffix("\n")))

    def test_flaws_are_not_looked_at(self):
        self.assertEqual(flaw(read_record(TEXT)), 3)


def table_of(rule=None, clock=None, by=digest, starts=0):
    rule = long_rule() if rule is None else rule
    players = rule.told()[2]
    table = Table("nim", rule, flat_clock(players=players) if clock is None else clock, KEYS[:players], by)
    if starts is not None:
        table.starts(starts)
    return table


def played():
    """A record of a game under way, with deeds of each kind and a void."""
    table = table_of(clock=flat_clock(base=50))
    for time, player, deed in [(3, 0, UP), (5, 1, UP), (5, 1, EVEN), (9, 1, DOWN), (12, 0, UP)]:
        table.hear(letter_to(table, player, deed, stamp=time), time)
    return table


def with_entry(record, at, entry):
    """The record with another entry at that number, and nothing behind it."""
    return (*record[:3], (*record[3][:at - 1], entry))


class Flaws(Case):
    def flaw(self, record, number, **rest):
        ahead = copy.deepcopy(record)
        self.assertEqual(flaw(record, **rest), number)
        self.assertEqual(record, ahead)
        if not rest:
            if number is None:
                self.assertEqual(len(Replay(record)), len(record[3]))
            else:
                self.no_record(number, lambda: Replay(record))

    def flaw_there(self, record, entry):
        """The entry can't follow behind the record, whatever stands behind it."""
        number = len(record[3]) + 1
        self.flaw((*record[:3], (*record[3], entry)), number)
        self.flaw((*record[:3], (*record[3], entry, ("open", 999))), number)

    def test_none_of_any_table(self):
        words = {}
        for seed in range(150):
            table = chance_table(random.Random(seed))[0]
            record = record_of(table)
            keys = KEYS[:record[2][0]]
            for rest in [{}, {"digest": digest}, {"digest": digest, "keys": keys}, {"keys": keys}]:
                self.flaw(record, None, **rest)
            for entry in record[3]:
                words[entry[0]] = words.get(entry[0], 0) + 1
            for many in range(len(record[3])):
                self.flaw((*record[:3], record[3][:many]), None)
        self.assertEqual(sorted(words), ["deed", "fall", "open", "two", "void"])

    def test_of_no_entries(self):
        self.flaw(record_of(table_of(starts=None)), None)

    def test_open_first_alone_and_once(self):
        record = record_of(played())
        entries = record[3]
        self.flaw((*record[:3], entries[1:]), 1)
        for at in range(1, len(entries) + 1):
            self.flaw((*record[:3], (*entries[:at], ("open", entries[at - 1][1]), *entries[at:])), at + 1)
        for entry in [("fall", 50, 0), ("two", 0, ONE, TWO), entries[1], entries[2]]:
            self.flaw((*record[:3], (entry,)), 1)
            self.flaw((*record[:3], (entry, *entries)), 1)

    def test_times_never_fall(self):
        record = record_of(played())
        for at in range(2, 7):
            entry = record[3][at - 1]
            early = record[3][at - 2][1] - 1
            if early >= 0:
                self.flaw(with_entry(record, at, (entry[0], early, entry[2])), at)
            self.flaw(with_entry(record, at, (entry[0], early + 1, entry[2])), None)

    def test_of_this_game_a_player_and_the_next_place(self):
        table = played()
        record = record_of(table)
        for parts in [{"game": "nym"}, {"place": 1}, {"place": 2}, {"place": 5}, {"place": 99}, {"ahead": 0},
                      {"ahead": 5}]:
            for player in [0, 1]:
                self.flaw_there(record, ("deed", 20, letter_to(table, player, EVEN, **parts)))
        for player in [2, 3]:
            self.flaw_there(record, ("deed", 20, letter_to(table, player, EVEN)))
            self.flaw_there(record, ("void", 20, letter_to(table, player, UP)))
        self.flaw((*record[:3], (*record[3], ("deed", 20, letter_to(table, 0, EVEN)))), None)

    def test_a_letter_twice(self):
        record = record_of(played())
        for entry in record[3][1:]:
            self.flaw_there(record, (entry[0], 12, entry[2]))

    def test_a_deed_that_can_be_done_and_a_void_that_can_not(self):
        table = played()
        record = record_of(table)
        for player, deed, word in [(1, DOWN, "deed"), (1, UP, "void"), (0, DOWN, "void"), (0, UP, "void"),
                                   (1, ("move", "left"), "void"), (0, EVEN, "deed"), (1, EVEN, "deed"),
                                   (0, GIVE, "deed"), (1, GIVE, "deed")]:
            letter = letter_to(table, player, deed)
            self.flaw((*record[:3], (*record[3], (word, 20, letter))), None)
            self.flaw_there(record, ("void" if word == "deed" else "deed", 20, letter))

    def test_falls(self):
        table = played()
        record = record_of(table)
        # Player 1 has 50 - 6 left since 12.
        self.flaw((*record[:3], (*record[3], ("fall", 56, 1))), None)
        for entry in [("fall", 55, 1), ("fall", 57, 1), ("fall", 56, 0), ("fall", 56, 2), ("fall", 12, 1),
                      ("fall", 100, 1)]:
            self.flaw_there(record, entry)
        letter = letter_to(table, 1, DOWN)
        one, other = letter_to(table, 0, EVEN), letter_to(table, 0, GIVE)
        for time, number in [(55, None), (56, 7), (57, 7), (500, 7)]:
            self.flaw((*record[:3], (*record[3], ("deed", time, letter))), number)
            self.flaw((*record[:3], (*record[3], ("two", time, one, other))), number)
            self.flaw((*record[:3], (*record[3], ("void", time, letter_to(table, 0, UP)))), number)

    def test_two(self):
        table = played()
        record = record_of(table)
        one, other = letter_to(table, 1, EVEN), letter_to(table, 1, GIVE)
        far = [letter_to(table, 0, deed, place=70) for deed in [UP, EVEN]]
        for pair in [(one, other), (other, one), tuple(far), (record[3][1][2], letter_to(table, 0, GIVE, place=1))]:
            self.flaw((*record[:3], (*record[3], ("two", 20, *pair))), None)
        nym = [letter_to(table, 1, deed, game="nym") for deed in [EVEN, GIVE]]
        third = [letter_to(table, 2, deed) for deed in [EVEN, GIVE]]
        for pair in [(one, one), (one, far[0]), (one, nym[1]), nym, third, (one, letter_to(table, 0, GIVE))]:
            self.flaw_there(record, ("two", 20, *pair))

    def test_nothing_behind_the_end(self):
        ends = [("fall", 56, 1)]
        table = played()
        ends += [("two", 20, letter_to(table, 0, EVEN), letter_to(table, 0, GIVE)),
                 ("deed", 20, letter_to(table, 0, GIVE))]
        record = record_of(table)
        for end in ends:
            over = (*record[:3], (*record[3], end))
            self.flaw(over, None)
            for entry in [end, ("deed", 60, letter_to(table, 1, EVEN)), ("void", 60, letter_to(table, 1, EVEN)),
                          ("void", 60, letter_to(table, 1, UP)), ("fall", 56, 1), ("open", 60),
                          ("two", 60, letter_to(table, 1, EVEN), letter_to(table, 1, GIVE))]:
                self.flaw_there(over, entry)
        short = record_of(table_of(take_rule(start=0)))
        self.flaw(short, None)
        self.flaw_there(short, ("deed", 0, ("letter", "nim", 0, 1, 0, 0, 0, EVEN, 0, 0)))
        self.flaw_there(short, ("fall", 1000, 0))

    def test_seen_and_mark_with_a_digest_alone(self):
        table = played()
        record = record_of(table)
        for word, player, deed in [("deed", 1, DOWN), ("void", 0, UP)]:
            for parts in [{"seen": 5}, {"mark": 5}, {"seen": 7}, {"seen": 99, "mark": table.mark(6)},
                          {"seen": 7, "mark": digest(f"7 {table.world().text()}")}]:
                wrong = (*record[:3], (*record[3], (word, 20, letter_to(table, player, deed, **parts))))
                self.flaw(wrong, None)
                self.flaw(wrong, None, keys=KEYS[:2])
                self.flaw(wrong, None, keys=KEYS[:1])
                self.flaw(wrong, 7, digest=digest)
                self.flaw(wrong, 7, digest=digest, keys=KEYS[:2])
            for seen in range(7):
                right = letter_to(table, player, deed, seen=seen, mark=table.mark(seen))
                self.flaw((*record[:3], (*record[3], (word, 20, right))), None, digest=digest, keys=KEYS[:2])
        # Of the letters of an entry two they aren't asked.
        pair = [letter_to(table, 1, deed, seen=99, mark=3) for deed in [EVEN, GIVE]]
        self.flaw((*record[:3], (*record[3], ("two", 20, *pair))), None, digest=digest, keys=KEYS[:2])

    def test_by_another_digest(self):
        self.flaw(record_of(played()), 2, digest=lambda text: 5)

    def test_seals_with_keys_and_a_digest(self):
        table = played()
        record = record_of(table)
        for word, player, deed in [("deed", 1, DOWN), ("void", 0, UP)]:
            wrong = (*record[:3], (*record[3], (word, 20, letter_to(table, player, deed, key="wrong"))))
            self.flaw(wrong, None)
            self.flaw(wrong, None, digest=digest)
            self.flaw(wrong, None, keys=KEYS[:2])
            self.flaw(wrong, 7, digest=digest, keys=KEYS[:2])
            self.flaw(wrong, 7, digest=digest, keys=tuple(KEYS[:2]))
        right, forged = letter_to(table, 1, EVEN), letter_to(table, 1, GIVE, key="wrong")
        for pair in [(right, forged), (forged, right)]:
            wrong = (*record[:3], (*record[3], ("two", 20, *pair)))
            self.flaw(wrong, None, digest=digest)
            self.flaw(wrong, 7, digest=digest, keys=KEYS[:2])
        self.flaw(record, 2, digest=digest, keys=KEYS[1::-1])
        self.flaw(record, 2, digest=digest, keys=["wrong", KEYS[1]])
        self.flaw(record, 3, digest=digest, keys=[KEYS[0], "wrong"])

    def test_no_key(self):
        record = record_of(played())
        for thing in [True, 0, 5, "ab", [], KEYS[:1], KEYS[:3], ["key", "Key"], [None, "key"], ["key", "k" * 21],
                      {"a": 1, "b": 2}]:
            ahead = repr(thing)
            for wrong in [record, (*record[:3], (("fall", 0, 0),))]:
                with self.assertRaises(NoKey):
                    flaw(wrong, keys=thing, digest=digest)
            self.flaw(record, None, keys=thing)
            self.assertEqual(repr(thing), ahead)

    def test_the_first_of_two(self):
        record = record_of(played())
        for one in range(1, 7):
            for other in range(one + 1, 7):
                entries = [("fall", 0, 3) if at in (one, other) else entry
                           for at, entry in enumerate(record[3], start=1)]
                self.flaw((*record[:3], tuple(entries)), one)

    def test_a_digest_that_raises_and_what_it_is_handed(self):
        record = record_of(played())
        asked = Digest()
        flaw(record, keys=KEYS[:2], digest=asked)
        for at in range(1, len(asked.asked) + 1):
            by = Digest()
            by.fail_at(at)
            with self.assertRaises(DigestFails):
                flaw(record, keys=KEYS[:2], digest=by)
        self.assertGreater(len(asked.asked), 5)


class Replays(Case):
    def test_against_the_tables_own(self):
        for seed in range(100):
            table, clocks = chance_table(random.Random(seed))
            replay = Replay(record_of(table))
            self.assertEqual(len(replay), len(table))
            self.assertEqual(replay.points(), table.world().points())
            for n in range(len(table) + 1):
                self.assertEqual(replay.world(n), table.world(behind=n))
                beginning = Replay((*record_of(table)[:3], tuple(table.entries()[:n])))
                self.assertEqual(beginning.clock(n), replay.clock(n))
                self.assertEqual(beginning.points(), table.world(behind=n).points())
            for n in clocks:
                self.assertEqual(replay.clock(n), clocks[n])
                for player in range(clocks[n].told()[0]):
                    for time in [10 ** 3, 10 ** 6]:
                        self.assertEqual(replay.left(n, player, time), clocks[n].left(player, time))

    def test_moves(self):
        table = played()
        self.assertEqual(Replay(record_of(table)).moves(),
                         [(2, 3, 0, "up"), (5, 9, 1, "down"), (6, 12, 0, "up")])
        self.assertEqual(Replay(record_of(table_of(starts=None))).moves(), [])
        for seed in range(40):
            table = chance_table(random.Random(seed))[0]
            moves = Replay(record=record_of(table)).moves()
            self.assertEqual([move[3] for move in moves], table.world().played())
            for number, time, player, name in moves:
                entry = table.entries()[number - 1]
                self.assertEqual((entry[0], entry[1], entry[2][2], entry[2][7]), ("deed", time, player, ("move", name)))

    def test_points(self):
        table = played()
        self.assertIsNone(Replay(record_of(table)).points())
        table.tick(99)
        self.assertEqual(Replay(record_of(table)).points(), (2, 0))
        self.assertEqual(Replay(record_of(table_of(take_rule(start=0), starts=None))).points(), (0, 2))

    def test_no_entry(self):
        replay = Replay(record_of(played()))
        for thing in [*NO_NUMBERS, -1, 7, 10 ** 39]:
            for do in [lambda: replay.world(thing), lambda: replay.clock(n=thing),
                       lambda: replay.left(thing, 0, 99), lambda: replay.left(thing, 9, -1)]:
                with self.assertRaises(NoEntry) as caught:
                    do()
                self.assertEqual(repr(caught.exception.number), repr(thing))

    def test_left(self):
        replay = Replay(record_of(played()))
        self.assertEqual([replay.left(n, 0, 20) for n in range(7)], [50, 30, 47, 47, 47, 36, 44])
        self.assertEqual([replay.left(n=n, player=1, time=20) for n in range(7)], [50, 50, 33, 33, 33, 44, 36])
        for thing in [*NO_NUMBERS, -1, 2]:
            with self.assertRaises(NoPlayer):
                replay.left(3, thing, -1)
        for thing in [*NO_TIMES, 11]:
            with self.assertRaises(NoTime) as caught:
                replay.left(6, 0, thing)
            self.assertEqual(repr(caught.exception.time), repr(thing))
        # As the clock's last time, which isn't the entry's: a void and an even don't press it.
        self.assertEqual(replay.left(4, 0, 3), 47)
        with self.assertRaises(NoTime):
            replay.left(4, 0, 2)

    def test_twins(self):
        replay = Replay(record_of(played()))
        world, clock = replay.world(6), replay.clock(6)
        world.give(0)
        clock.stop(30)
        replay.moves().append(None)
        self.assertIsNone(replay.world(6).points())
        self.assertEqual((replay.clock(6).running(), len(replay.moves())), (1, 3))

    def test_a_rule_of_its_own(self):
        rule = Rule([0], [("go", None, (), ((0, "put", 1),))], players=4, most=3)
        table = table_of(rule)
        for player in range(3):
            table.hear(letter_to(table, player, ("move", "go")), player)
        replay = Replay(record_of(table))
        self.assertEqual((replay.points(), replay.world(4).why()), ((1, 1, 1, 1), "most"))
        self.assertEqual([replay.clock(n).running() for n in range(5)], [None, 0, 1, 2, None])


class Handed(Case):
    def test_letters_of_no_game_that_is_sealed_otherwise(self):
        # [2] (c): whoever has no key can't make a record that keys hold for.
        table = table_of()
        record = record_of(table)
        letter = sealed("wrong", digest, game="nim", player=0, place=1, deed=UP, seen=1, mark=table.mark(1))
        self.assertEqual(flaw((*record[:3], (*record[3], ("deed", 0, letter))), keys=KEYS[:2], digest=digest), 2)


if __name__ == "__main__":
    unittest.main()
