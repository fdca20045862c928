"""[120], [121]: deeds as rows, and the desk."""

import random
import unittest

from guests import CLOCK, CLOCKS, MEMBERS, RULES, chance_house, first_deeds, house_told, sent
from makers import OTHERS, Digest, DigestFails, digest
from playstead.desk import Desk, deed_text, read_deed
from playstead.errors import NoText, SteadError
from playstead.houses import House, led
from playstead.judging import books_of, judged
from playstead.letters import letter_text, sealed
from playstead.ruletexts import rule_text

UP, GIVE, EVEN = ("move", "up"), ("give",), ("even",)
LETTER = ("letter", "nim", 0, 1, 0, 2, 77, ("move", "one"), 3, 12345)
OTHER = ("letter", "nim", 0, 1, 0, 0, 0, ("give",), 10 ** 12, 10 ** 30)
ROWS = [
    (("member", "ada", "adakey"), "member ada adakey"),
    (("member", "abcdefgh", "k" * 20), "member abcdefgh " + "k" * 20),
    (("open", "nim", "take", ("ada", "bob"), (2, 60, "flat", 0, 0, 5)), "open nim take ada bob 2 60 flat 0 0 5"),
    (("open", "nim", "take", (), (2, 60, "flat", 0, 0, 5)), "open nim take 2 60 flat 0 0 5"),
    (("open", "abcdefgh", "take", ("day", "day", "over", "nim", "a"), (7, 0, "slow", 10 ** 39, 77, 5)),
     f"open abcdefgh take day day over nim a 7 0 slow {10 ** 39} 77 5"),
    (("hear", LETTER), "hear nim 0 1 0 2 77 move one 3 12345"),
    (("hear", OTHER), f"hear nim 0 1 0 0 0 give 1000000000000 {10 ** 30}"),
    (("tick", 1), "tick 1"), (("tick", 10000), "tick 10000"), (("day",), "day"),
    (("claim", LETTER, OTHER),
     f"claim nim 0 1 0 2 77 move one 3 12345 / nim 0 1 0 0 0 give 1000000000000 {10 ** 30}"),
    (("claim", LETTER, LETTER), "claim nim 0 1 0 2 77 move one 3 12345 / nim 0 1 0 2 77 move one 3 12345"),
    (("cup", "spring", ("ada", "bob", "cyd"), 3, "take", (2, 60, "parts", 5, 1, 0)),
     "cup spring 3 take 2 60 parts 5 1 0 ada bob cyd"),
    (("cup", "spring", (), 0, "take", (0, 0, "a", 0, 0, 0)), "cup spring 0 take 0 0 a 0 0 0"),
    (("cup", "abcdefgh", ("ada",), 77, "take", (2, 60, "plus", 5, 1, 0)), "cup abcdefgh 77 take 2 60 plus 5 1 0 ada"),
    (("round", "spring"), "round spring"),
]


class Texts(unittest.TestCase):
    def no_text(self, do, thing):
        handed = repr(thing)
        with self.assertRaises(NoText, msg=handed) as caught:
            do(thing)
        self.assertEqual(caught.exception.row, 0)
        self.assertEqual(repr(thing), handed)

    def test_written_and_read_back(self):
        for deed, row in ROWS:
            self.assertEqual(deed_text(deed), row)
            self.assertEqual(read_deed(row), deed)
            self.assertEqual(repr(read_deed(row)), repr(deed))
        self.assertEqual(deed_text(deed=("day",)), "day")
        self.assertEqual(read_deed(text="day"), ("day",))

    def test_lists(self):
        self.assertEqual(deed_text(("open", "nim", "take", ["ada", "bob"], CLOCK)), "open nim take ada bob 2 100 flat 0 0 0")
        self.assertEqual(deed_text(("cup", "x", ["ada"], 1, "take", CLOCK)), "cup x 1 take 2 100 flat 0 0 0 ada")

    def test_ticks_of_other_numbers(self):
        for n in [0, 10001, 10 ** 39]:
            self.assertEqual(read_deed(f"tick {n}"), ("tick", n))
            self.no_text(deed_text, ("tick", n))

    def test_the_deeds_of_any_house(self):
        for seed in range(300, 310):
            house = chance_house(random.Random(seed))
            for deed in house.deeds():
                if deed[0] == "rule" or None in deed:
                    self.no_text(deed_text, deed)
                else:
                    self.assertEqual(read_deed(deed_text(deed)), deed)

    def test_what_has_no_text(self):
        wrong = [*OTHERS, 0, "day", ["day"], ("rule", "nim", rule_text(RULES["take"])), ("night",), ("day", 0), (),
                 ("hear",), ("hear", None), ("claim", LETTER, None), ("claim", None, LETTER), ("hear", list(LETTER)),
                 ("hear", LETTER[:9]), ("world", "nim"), ("judge",), ("over",)]
        for deed, _ in ROWS:
            wrong += [list(deed), (*deed, None), (*deed, 0), (None, *deed[1:]), (deed[0].upper(), *deed[1:])]
            wrong += [(*deed[:at], thing, *deed[at + 1:]) for at in range(1, len(deed))
                      for thing in [None, True, False, -1, "", "A", "a b", {}, [None], ("Ada",), (5,), b"ada"]]
        wrong += [("member", "ada", thing) for thing in ["k" * 21, "key1", "key ", ["key"], 5]]
        for thing in [*[thing for thing in OTHERS if thing not in ((), [])], 0, "ada", ["ada", "Bob"], [5], {"ada": 1},
                      (("ada",),), ["ada", "abcdefghi"]]:
            wrong += [("open", "nim", "take", thing, CLOCK), ("cup", "x", thing, 1, "take", CLOCK)]
        for thing in [*OTHERS, 0, list(CLOCK), CLOCK[:5], (*CLOCK, 0), (-2, *CLOCK[1:]), (True, *CLOCK[1:]),
                      (2, 60, "Flat", 0, 0, 0), (2, 60, None, 0, 0, 0), (2, 60, 5, 0, 0, 0), (2, "60", "flat", 0, 0, 0),
                      (2, 60, "flat", 0, 0, None), (2, 60, "flat", 0, -1, 0), ("flat", 2, 60, 0, 0, 0)]:
            wrong += [("open", "nim", "take", ("ada",), thing), ("cup", "x", ("ada",), 1, "take", thing)]
        for thing in [*OTHERS, -1, "1", 1.5]:
            wrong += [("tick", thing), ("cup", "x", ("ada",), thing, "take", CLOCK)]
        for deed in wrong:
            if not (isinstance(deed, tuple) and deed in [row[0] for row in ROWS] and repr(deed) in [
                    repr(row[0]) for row in ROWS]):
                self.no_text(deed_text, deed)

    def test_no_such_row(self):
        for thing in [*[thing for thing in OTHERS if type(thing) is not str], 0, ["day"], ("day",)]:
            self.no_text(read_deed, thing)
        letter = letter_text(LETTER)
        for row in ["", " ", "Day", "day ", " day", "day\n", "\nday", "day day", "days", "night", "over", "judge",
                    "rule nim", "world nim", "member", "member ada", "member ada key key", "member Ada key",
                    "member ada Key", "member ada k3y", "member abcdefghi key", "member ada " + "k" * 21,
                    "member  ada key", "member ada  key", "member ada key ", "tick", "tick ", "tick 01", "tick -1",
                    "tick +1", "tick x", "tick 1 1", "tick  1", "tick 1 ", "tick 1.0", "tick 1_0", "ticks 1", "Tick 1",
                    "round", "round ", "round Spring", "round a b", "round  a", "round 5", "hear", "hear ",
                    f"hear  {letter}", f"hear {letter} ", f"hear {letter} / {letter}", f"hears {letter}",
                    f"hear / {letter}", f"hear hear {letter}", "claim", "claim ", f"claim {letter}", f"claim {letter} / ",
                    f"claim {letter} {letter}", f"claim {letter}  / {letter}", f"claim {letter} /  {letter}",
                    f"claim {letter} / {letter} / {letter}", f"claim {letter}/ {letter}", f"claim / {letter}",
                    f"claim {letter} / x", f"claim x / {letter}", f"claim {letter} / {letter} "]:
            self.no_text(read_deed, row)

    def test_open_and_cup(self):
        for row in ["open", "open nim", "open nim take", "open 2 60 flat 0 0 5", "open nim 2 60 flat 0 0 5",
                    "open nim take ada bob", "open Nim take 2 60 flat 0 0 5", "open nim Take 2 60 flat 0 0 5",
                    "open nim take Ada 2 60 flat 0 0 5", "open nim take ada 5 2 60 flat 0 0 5",
                    "open nim take ada 02 60 flat 0 0 5", "open nim take ada 2 60 Flat 0 0 5",
                    "open nim take ada 2 60 flat 0 0", "open nim take ada 2 60 flat 0 0 5 5",
                    "open nim take ada 2 60 flat 0 0 05", "open nim take ada 2 60 flat 0 -1 5",
                    "open nim take  ada 2 60 flat 0 0 5", "open nim take ada  2 60 flat 0 0 5",
                    "open nim take ada 2 60 flat 0 0 5 ", "open nim take ada 2 60 7 0 0 5",
                    "open nim take abcdefghi 2 60 flat 0 0 5", "open abcdefghi take ada 2 60 flat 0 0 5",
                    "open nim take 2 60 flat 0 0 5 ada", "cup", "cup x", "cup x 3", "cup x 3 take",
                    "cup x 3 take 2 60 flat 0 0", "cup X 3 take 2 60 flat 0 0 5", "cup x 03 take 2 60 flat 0 0 5",
                    "cup x three take 2 60 flat 0 0 5", "cup x -3 take 2 60 flat 0 0 5", "cup x 3 Take 2 60 flat 0 0 5",
                    "cup x 3 take ada 2 60 flat 0 0 5", "cup x 3 take 2 60 flat 0 0 5 5",
                    "cup x 3 take 2 60 flat 0 0 5 Ada", "cup x 3 take 2 60 flat 0 0 5 ada ",
                    "cup x 3 take 2 60 flat 0 0 5  ada", "cup x  3 take 2 60 flat 0 0 5", "cup x 3 take 2 60 5 0 0 5",
                    "cup x 3 take 2 60 flat 00 0 5 ada", "cup x take 3 2 60 flat 0 0 5", "cup 3 x take 2 60 flat 0 0 5"]:
            self.no_text(read_deed, row)

    def test_each_row_one_sign_off(self):
        # What is read is written just so: no two rows tell one deed.
        for _, row in ROWS:
            for at in range(len(row) + 1):
                for text in [row[:at] + row[at + 1:], row[:at] + " " + row[at:], row[:at] + "0" + row[at:],
                             row[:at] + "x" + row[at + 1:], row[:at] + "\n" + row[at:], row[:at] + "-" + row[at:]]:
                    try:
                        deed = read_deed(text)
                    except NoText:
                        continue
                    self.assertTrue(deed[0] == "tick" or deed_text(deed) == text, text)


class Case(unittest.TestCase):
    def says(self, desk, *pairs):
        for row, answer in pairs:
            self.assertEqual(desk.say(row), answer, row)

    def desk(self):
        desk = Desk(digest)
        for deed in first_deeds():
            if deed[0] == "rule":
                rows = deed[2].splitlines()
                self.says(desk, (f"rule {deed[1]}", ".."), *[(row, "..") for row in rows], ("over", "ok"))
            else:
                self.says(desk, (deed_text(deed), "ok"))
        return desk

    def house(self, *deeds):
        house = House(digest)
        house.all_done([*first_deeds(), *deeds])
        return house


class Rules(Case):
    def test_row_by_row(self):
        desk = Desk(digest)
        self.says(desk, ("rule nim", ".."), ("rule 2 players, most 40, stuck lose", ".."), ("cells 5", ".."),
                  ("move one by any then 0 add -1", ".."), ("over", "ok"), ("over", "what"),
                  ("member ada key", "ok"), ("member bob key", "ok"), ("open g nim ada bob 2 60 flat 0 0 5", "ok"),
                  ("world g", "5|0|0|-|-|-"))

    def test_by_name(self):
        desk = Desk(digest=digest)
        self.assertEqual(desk.say(row="rule nim"), "..")

    def test_no_row(self):
        rows = rule_text(RULES["four"]).splitlines()
        for at in range(len(rows)):
            for wrong in ["", " ", "x", rows[at] + " ", " " + rows[at], "day", "rule nim", "rule", "judge", "a\nb",
                          rows[at] + "\n", "\n"]:
                desk = self.desk()
                self.says(desk, ("rule new", ".."), *[(row, "..") for row in rows[:at]], (wrong, ".."),
                          *[(row, "..") for row in rows[at + 1:]], ("over", f"no row {at}"))
                # Nothing is left of it.
                self.says(desk, ("rule new", ".."), *[(row, "..") for row in rows], ("over", "ok"))
        for many in range(2):
            desk = self.desk()
            self.says(desk, ("rule new", ".."), *[(row, "..") for row in rows[:many]], ("over", f"no row {many}"))

    def test_no_rule(self):
        desk = self.desk()
        rows = rule_text(RULES["take"]).splitlines()
        self.says(desk, ("rule new", ".."), (rows[0], ".."), (rows[1], ".."), ("over", "refused norule"))
        self.says(desk, ("rule new", ".."), ("rule 2 players, most 61, stuck lose", ".."),
                  *[(row, "..") for row in rows[1:]], ("over", "refused norule"))
        self.says(desk, ("rule new", ".."), *[(row, "..") for row in rows], ("over", "ok"))

    def test_a_name_that_stands(self):
        desk = self.desk()
        rows = rule_text(RULES["take"]).splitlines()
        for body in [rows, ["x"], []]:
            self.says(desk, ("rule take", ".."), *[(row, "..") for row in body], ("over", "refused noname"))

    def test_each_row_between_counts_as_the_rules(self):
        desk = self.desk()
        for row in ["day", "tick 5", "judge", "world nim", "member zoe key", "what", "", "Over", " over", "over "]:
            self.says(desk, ("rule new", ".."), (row, ".."), ("over", "no row 0"))
        self.says(desk, ("rating zoe", "refused noname"), ("rule no", ".."), ("rule nono", ".."), ("over", "no row 0"),
                  ("over", "what"))

    def test_no_name(self):
        desk = self.desk()
        for row in ["rule", "rule ", "rule Nim", "rule abcdefghi", "rule nim nim", "rule  nim", " rule nim", "rule nim ",
                    "rule 5", "rule 2 players, most 40, stuck lose"]:
            self.says(desk, (row, "what"), ("over", "what"), ("day", "ok"))


class Answers(Case):
    def test_beside_a_house_led_by_the_same_deeds(self):
        classes = {}
        for seed in range(400, 412):
            house = chance_house(random.Random(seed))
            desk, twin = self.desk(), self.house()
            for deed in house.deeds()[len(first_deeds()):]:
                if None in deed:
                    continue
                told = twin.do(deed)
                expected = {None: "ok"}.get(told if not isinstance(told, list) else "", told)
                self.says(desk, (deed_text(deed), " ".join(told) if isinstance(told, list) else expected))
                self.alike(desk, twin)
            for deed in [("open", "a", "take", ("ada", "bob"), CLOCK), ("open", "toolong", "take", (), CLOCK),
                         ("open", "new", "take", ("ada", "zoe"), CLOCK), ("open", "new", "take", ("ada",), CLOCK),
                         ("open", "new", "take", ("ada", "bob"), CLOCKS[3]), ("round", "z"), ("round", "x"),
                         ("cup", "z", ("ada",), 3, "take", CLOCK), ("cup", "z", ("ada", "bob"), 3, "three", CLOCK),
                         ("cup", "z", ("ada", "bob"), 0, "take", CLOCK), ("member", "ada", "key")]:
                try:
                    twin.twin().do(deed)
                except SteadError as error:
                    word = type(error).__name__.lower()
                    classes[word] = True
                    self.says(desk, (deed_text(deed), f"refused {word}"))
            self.alike(desk, twin)
        self.assertLessEqual({"noname", "norule", "noclock", "nopairing", "over"}, set(classes))

    def alike(self, desk, house):
        for game in house.games():
            world = house.table(game).world()
            self.says(desk, (f"world {game}", world.text()))
            for player in range(len(house.names_of(game))):
                self.says(desk, (f"left {game} {player}", str(house.table(game).left(player, house.now()))))
            self.says(desk, (f"left {game} {len(house.names_of(game))}", "refused noplayer"))
        for cup in house.cups():
            rows = house.cup_standing(cup)
            self.says(desk, (f"table {cup}", ", ".join([f"{row[0]} {row[1]}" for row in rows])))
        for name in house.members():
            self.says(desk, (f"rating {name}", str(house.rating(name))))
        self.says(desk, ("judge", "ok"))

    def test_by_hand(self):
        desk = self.desk()
        twin = self.house()
        deeds = [("open", "g", "take", ("ada", "bob"), CLOCK), ("open", "h", "long", ("cyd", "dan"), CLOCK),
                 ("tick", 5)]
        for deed in deeds:
            self.assertIsNone(twin.do(deed))
            self.says(desk, (deed_text(deed), "ok"))
        first = sent(twin, "g", "ada", ("move", "two"))
        void = sent(twin, "g", "bob", ("move", "up"))
        pair = [sent(twin, "h", "cyd", deed, place=3) for deed in [EVEN, GIVE]]
        forged = sent(twin, "g", "bob", EVEN, key="wrong")
        row = f"hear {letter_text(first)}"
        self.says(
            desk, ("world g", "5|0|0|-|-|-"), (row, "done"), (row, "again"), (f"hear {letter_text(void)}", "void"),
            (f"hear {letter_text(forged)}", "forged"), ("world g", "3|1|1|-|-|-"), ("left g 0", "95"),
            ("left g 1", "100"), ("tick 7", "ok"), ("left g 1", "93"), ("left g 0", "95"), ("left g 2", "refused noplayer"),
            ("left g 10000000000000", "refused noplayer"), ("left z 0", "refused nogame"),
            ("world z", "refused nogame"), ("world ada", "refused nogame"), ("table g", "refused nocup"),
            ("table abcdefgh", "refused nocup"), ("rating zoe", "refused noname"), ("rating ada", "1000"),
            (f"claim {letter_text(pair[0])} / {letter_text(pair[0])}", "none"),
            (f"claim {letter_text(pair[0])} / {letter_text(pair[1])}", "struck"),
            (f"claim {letter_text(pair[0])} / {letter_text(pair[1])}", "none"), ("world h", "0|-|0|-|0,2|two"),
            ("rating cyd", "980"), ("rating dan", "1020"), ("judge", "ok"),
            ("cup x 2 take 2 60 flat 0 0 0 eve ada dan", "ok"), ("table x", "eve 0, ada 0, dan 0"),
            ("round x", "xaa"), ("tick 60", "ok"), ("table x", "ada 2, eve 0, dan 0"), ("round x", "xba"),
            ("round x", "refused over"), ("round y", "refused noname"), ("day", "ok"), ("tick 0", "refused nodeed"),
            ("tick 10001", "refused nodeed"), ("member ada key", "refused noname"), ("member take key", "ok"),
            ("open g take ada bob 2 60 flat 0 0 0", "refused noname"),
            ("open k take ada bob 2 60 slow 0 0 0", "refused noclock"),
            ("open k take ada 2 60 flat 0 0 0", "refused norule"),
            ("cup z 0 take 2 60 flat 0 0 0 ada bob", "refused nopairing"),
            ("cup z 1 take 2 60 flat 0 0 0", "refused nopairing"), ("judge", "ok"),
        )

    def test_several_games_of_a_round(self):
        desk = self.desk()
        self.says(desk, ("cup x 3 long 2 60 flat 0 0 0 ada bob cyd dan", "ok"), ("round x", "xaa xab"),
                  ("round x", "xba xbb"))

    def test_days(self):
        desk = Desk(digest)
        self.says(desk, *[("day", "ok")] * 400, ("day", "refused noday"), ("day", "refused noday"))

    def test_what(self):
        desk = self.desk()
        self.says(desk, ("open g take ada bob 2 60 flat 0 0 0", "ok"), ("cup x 1 take 2 60 flat 0 0 0 ada bob", "ok"))
        for row in ["", " ", "what", "over", "worlds g", "world", "world ", "world G", "world g g", "world  g",
                    " world g", "world g ", "world 5", "world abcdefghi", "left", "left g", "left g ", "left g x",
                    "left g 00", "left g 01", "left g -1", "left g +1", "left G 0", "left g 0 0", "left  g 0",
                    "left g  0", "left g 0 ", " left g 0", "left g 1.0", "left 0 g", "table", "table X", "table x x",
                    "table  x", "table x ", "table 5", "rating", "rating Ada", "rating ada bob", "rating  ada",
                    "rating ada ", " rating ada", "judge ", " judge", "judge g", "Judge", "judges", "day ", "days",
                    "tick 01", "tick x", "tick", "member ada Key", "member zoe", "open", "open g", "hear", "hear x",
                    "claim x / y", "cup", "round X", "round x x", "world g\n", "\nworld g", "day\n", "judge\n",
                    "left g 0\n", "rule nim\n", "world\ng", "say day", "look", "deeds", "log"]:
            self.says(desk, (row, "what"))
        for thing in [None, True, 0, ["day"], ("day",), {}]:
            self.says(desk, (thing, "what"))

    def test_a_digest_that_raises(self):
        by = Digest()
        desk = Desk(by)
        for row in ["member ada akey", "member bob bkey", "rule one", "rule 2 players, most 40, stuck lose", "cells 5",
                    "move one by any then 0 add -1", "over", "open g one ada bob 2 60 flat 0 0 0"]:
            desk.say(row)
        letter = sealed("akey", digest, game="g", player=0, place=1, deed=("move", "one"), seen=1,
                        mark=digest("1 5|0|0|-|-|-"))
        row = f"hear {letter_text(letter)}"
        for at in [1, 2]:
            by.fail_at(at)
            with self.assertRaises(DigestFails):
                desk.say(row)
            by.fails_at = None
            self.says(desk, ("world g", "5|0|0|-|-|-"))
        self.says(desk, (row, "done"), ("world g", "4|1|1|-|-|-"))
        by.fail_at(1)
        with self.assertRaises(DigestFails):
            desk.say("judge")
        self.assertTrue(all([type(text) is str for text in by.asked]))

    def test_judge_tells_a_flaws_parts(self):
        # A digest that changes its mind is none; by it the desk's own books don't hold.
        minds = {"less": 0}
        desk = Desk(lambda text: digest(text) - minds["less"])
        for row in ["member ada akey", "member bob bkey", "rule one", "rule 2 players, most 40, stuck lose", "cells 5",
                    "move one by any then 0 add -1", "over", "open g one ada bob 2 60 flat 0 0 0"]:
            desk.say(row)
        letter = sealed("akey", digest, game="g", player=0, place=1, deed=("move", "one"), seen=1,
                        mark=digest("1 5|0|0|-|-|-"))
        self.says(desk, (f"hear {letter_text(letter)}", "done"), ("judge", "ok"))
        minds["less"] = 1
        self.says(desk, ("judge", "record g 2"))


class Led(Case):
    def test_a_house_by_the_rows_of_another(self):
        for seed in range(500, 506):
            house = chance_house(random.Random(seed))
            deeds = [deed for deed in house.deeds() if None not in deed]
            again = [read_deed(deed_text(deed)) if deed[0] != "rule" else deed for deed in deeds]
            other = led(digest, again, ladder=house.ladder())
            self.assertEqual(house_told(other, log=False)[1:], house_told(house, log=False)[1:])
            self.assertIsNone(judged(books_of(other), digest))
        self.assertEqual(len(MEMBERS), 5)


if __name__ == "__main__":
    unittest.main()
