"""[100], [101], [102]: houses."""

import copy
import random
import unittest

from guests import CLOCK, CLOCKS, MEMBERS, RULES, chance_house, first_deeds, house_of, house_told, sent
from makers import KEYS, NO_NUMBERS, OTHERS, Digest, DigestFails, digest
from playstead.books import Book
from playstead.clocks import Clock
from playstead.errors import (
    NoClock, NoCup, NoDay, NoDeed, NoGame, NoKey, NoLadder, NoName, NoPairing, NoRule, NoText, Over, SteadError,
)
from playstead.houses import House, led
from playstead.ladders import Ladder, rating
from playstead.letters import sealed
from playstead.pairings import standing
from playstead.ruletexts import rule_text
from playstead.tables import Table

UP, DOWN, GIVE, EVEN = ("move", "up"), ("move", "down"), ("give",), ("even",)
ONE, TWO = ("move", "one"), ("move", "two")
OPEN = ("open", "nim", "long", ("ada", "bob"), CLOCK)
CUP = ("cup", "spring", ("ada", "bob", "cyd"), 3, "long", CLOCK)


class Case(unittest.TestCase):
    def refused(self, house, deed, kind, *field):
        """The deed is refused so, and nothing but the log is another."""
        ahead, many, handed = house_told(house, log=False), len(house.log()), repr(deed)
        with self.assertRaises(SteadError, msg=handed) as caught:
            house.do(deed)
        self.assertEqual(type(caught.exception), kind, handed)
        if field:
            self.assertEqual(repr(list(vars(caught.exception).values())), repr(list(field)), handed)
        self.assertEqual(house_told(house, log=False), ahead)
        self.assertEqual(repr(deed), handed)
        self.assertEqual(len(house.log()), many + 2)

    def told(self, house, deed, told):
        """The deed is done and tells this."""
        handed = repr(deed)
        self.assertEqual(house.do(deed), told, handed)
        self.assertEqual(repr(deed), handed)

    def over(self, house, game, points, day):
        self.assertEqual(house.day_of(game), day)
        results = [result for result in house.book().results() if result[0] == game]
        self.assertEqual(results, [] if day is None else [(game, day, house.names_of(game), points)])


class Made(Case):
    def test_by_place_and_by_name(self):
        ladder = Ladder(first=7, least=3)
        for house in [House(digest), House(digest=digest), House(digest, ladder=None)]:
            self.assertEqual(house.ladder().told(), Ladder().told())
        self.assertEqual(House(digest, ladder=ladder).ladder().told(), ladder.told())
        house = House(digest)
        self.assertEqual((house.today(), house.now(), house.members(), house.games(), house.cups(), house.log()),
                         (0, 0, {}, [], [], []))
        self.assertEqual((house.deeds(), house.book().results()), ([], []))
        with self.assertRaises(TypeError):
            House(digest, Ladder())

    def test_no_ladder(self):
        for thing in [*OTHERS[1:], 0, Ladder().told(), Book()]:
            with self.assertRaises(NoLadder, msg=repr(thing)):
                House(digest, ladder=thing)


class Forms(Case):
    def test_no_deed(self):
        house = house_of(deeds=[OPEN, CUP])
        letter = sent(house, "nim", "ada", UP)
        rights = [("member", "fay", "key"), ("rule", "new", rule_text(RULES["take"])),
                  ("open", "chess", "long", ("ada", "bob"), CLOCK), ("hear", letter), ("tick", 5), ("day",),
                  ("claim", letter, letter), ("cup", "autumn", ("ada", "bob", "cyd"), 3, "long", CLOCK),
                  ("round", "spring")]
        wrong = [*OTHERS, 0, "day", ["day"], ("Day",), ("night",), (("day",),), (["day"],), ("day", 1), ("hear",)]
        for deed in rights:
            wrong += [list(deed), deed[:-1], (*deed, 0), (*deed, None), deed[1:], (deed[0].upper(), *deed[1:]),
                      (None, *deed[1:]), ([deed[0]], *deed[1:]), (deed[0] + " ", *deed[1:]), (deed,)]
        no_names = [*NO_NUMBERS, 0, "Ada", "abcdefghi", ["ada"], ("ada",)]
        for deed, places in [(rights[0], [1]), (rights[1], [1]), (rights[2], [1, 2]), (rights[7], [1, 4]),
                             (rights[8], [1])]:
            for at in places:
                wrong += [(*deed[:at], thing, *deed[at + 1:]) for thing in no_names if thing != "a"]
        no_lists = [None, True, 0, "", "ada", {}, {"ada": 1}, ["ada", None], ["ada", "Bob"], ["ada", 5], ("ada", ""),
                    ["ada", "abcdefghi"], [["ada"], "bob"], ("ada", ("bob",))]
        wrong += [("open", "chess", "long", thing, CLOCK) for thing in no_lists]
        wrong += [("cup", "autumn", thing, 3, "long", CLOCK) for thing in no_lists]
        wrong += [("tick", thing) for thing in [*NO_NUMBERS, 0, -1, 10001, 10 ** 39]]
        for deed in wrong:
            if deed != ("day",):
                self.refused(house, deed, NoDeed, 0)
        for deed in rights:
            house.twin().do(deed)

    def test_no_deed_comes_ahead_of_all_else(self):
        house = house_of()
        for deed in [("member", "ada", "key", 0), ("open", "nim", "nosuch", ("ada", 5), CLOCK),
                     ("open", "toolong", "nosuch", ("ada", "Bob"), None), ("cup", "spring", ("zoe",), 0, 5, None),
                     ("rule", "Take", "x"), ("round", "Spring")]:
            self.refused(house, deed, NoDeed, 0)


class Members(Case):
    def test_member(self):
        house = House(digest)
        for name, key in [("zoe", "k"), ("abcdefgh", "k" * 20), ("ada", "k"), ("take", "k")]:
            self.told(house, ("member", name, key), None)
        self.assertEqual(house.members(), {"zoe": "k", "abcdefgh": "k" * 20, "ada": "k", "take": "k"})
        self.assertEqual(list(house.members()), ["abcdefgh", "ada", "take", "zoe"])

    def test_refused(self):
        house = house_of()
        for key in ["key", "Key", None]:
            self.refused(house, ("member", "ada", key), NoName, "ada")
        for key in [*OTHERS[:4], "A", "a b", "0", [], ("key",), {}, 5, "k" * 21, b"key"]:
            self.refused(house, ("member", "fay", key), NoKey)


class RuleDeeds(Case):
    def test_rule(self):
        house = House(digest)
        self.told(house, ("rule", "abcdefgh", rule_text(RULES["take"])), None)
        self.told(house, ("rule", "ada", rule_text(RULES["three"])), None)
        house.do(("member", "ada", "key"))
        house.do(("member", "bob", "key"))
        self.told(house, ("open", "nim", "abcdefgh", ["ada", "bob"], CLOCK), None)
        self.assertEqual(house.table("nim").world().cells(), (5,))

    def test_refused(self):
        house = house_of()
        text = rule_text(RULES["take"])
        for thing in [text, "x", None]:
            self.refused(house, ("rule", "take", thing), NoName, "take")
        for thing in [None, True, 0, [], (text,), {}]:
            self.refused(house, ("rule", "new", thing), NoText, 0)
        rows = text.splitlines()
        for at in range(len(rows)):
            wrong = "".join([row + "\n" for row in [*rows[:at], "x", *rows[at + 1:]]])
            self.refused(house, ("rule", "new", wrong), NoText, at)
        self.refused(house, ("rule", "new", text[:-1]), NoText, len(rows))
        self.refused(house, ("rule", "new", ""), NoText, 0)
        self.refused(house, ("rule", "new", text.replace("most 40", "most 0")), NoRule)
        self.refused(house, ("rule", "new", "".join([row + "\n" for row in rows[:2]])), NoRule)


class Opened(Case):
    def test_open(self):
        house = house_of(deeds=[("tick", 7)])
        self.told(house, ("open", "nim", "long", ["bob", "ada"], (2, 50, "plus", 3, 0, 9)), None)
        self.told(house, ("open", "abcdef", "three", ("cyd", "ada", "bob"), CLOCKS[3]), None)
        self.assertEqual(house.games(), ["abcdef", "nim"])
        table = house.table("nim")
        self.assertEqual((table.entries(), table.clock().told(), table.clock().running(), table.left(0, 7)),
                         ([("open", 7)], (2, 50, "plus", 3, 0, 9), 0, 50))
        self.assertEqual((house.names_of("nim"), house.day_of("nim")), (("bob", "ada"), None))
        self.assertEqual(house.names_of(game="abcdef"), ("cyd", "ada", "bob"))
        # Bob is player 0 there, and letters are sealed by the members' keys.
        self.told(house, ("hear", sent(house, "nim", "bob", UP)), "done")
        self.told(house, ("hear", sent(house, "nim", "ada", DOWN, key=KEYS[1])), "forged")

    def test_names_that_stand_among_others(self):
        house = house_of(deeds=[OPEN, CUP])
        for deed in [("member", "nim", "key"), ("member", "spring", "key"), ("rule", "nim", rule_text(RULES["take"])),
                     ("open", "ada", "long", ("ada", "bob"), CLOCK), ("open", "take", "long", ("ada", "bob"), CLOCK),
                     ("open", "spring", "long", ("ada", "bob"), CLOCK),
                     ("cup", "nim", ("ada", "bob"), 1, "long", CLOCK), ("cup", "ada", ("ada", "bob"), 1, "long", CLOCK)]:
            self.told(house, deed, None)

    def test_refused(self):
        house = house_of(deeds=[OPEN])
        good = ("open", "chess", "long", ("ada", "bob"), CLOCK)

        def deed(**parts):
            at = {"game": 1, "rule": 2, "names": 3, "clock": 4}
            row = list(good)
            for part in parts:
                row[at[part]] = parts[part]
            return tuple(row)

        for game in ["nim", "abcdefg", "abcdefgh"]:
            self.refused(house, deed(game=game), NoName, game)
            self.refused(house, deed(game=game, rule="nosuch", names=("zoe",), clock=None), NoName, game)
        for rule in ["nosuch", "nim", "ada"]:
            self.refused(house, deed(rule=rule), NoName, rule)
            self.refused(house, deed(rule=rule, names=("zoe",), clock=None), NoName, rule)
        for names, name in [(("ada", "zoe"), "zoe"), (["take", "ada"], "take"), (("yan", "zoe"), "yan"),
                            (("ada", "ada"), "ada"), (("bob", "ada", "bob"), "bob"), (("ada", "zoe", "ada"), "zoe"),
                            (["ada", "bob", "cyd", "zoe"], "zoe")]:
            self.refused(house, deed(names=names), NoName, name)
            self.refused(house, deed(names=names, clock=None), NoName, name)
        for names in [(), [], ("ada",), ("ada", "bob", "cyd"), ("ada", "bob", "cyd", "dan")]:
            self.refused(house, deed(names=names), NoRule)
            self.refused(house, deed(names=names, clock=None), NoRule)
        self.refused(house, deed(rule="three"), NoRule)
        self.refused(house, deed(rule="three", clock=CLOCKS[3]), NoRule)
        for clock in [*OTHERS, 0, list(CLOCK), CLOCK[:5], (*CLOCK, 0), CLOCKS[3], CLOCKS[4], (True, *CLOCK[1:]),
                      (2, 0, "flat", 0, 0, 0), (2, 10001, "flat", 0, 0, 0), (2, 10, "slow", 0, 0, 0),
                      (2, 10, "parts", 0, 3, 0), (2, 10, "flat", 1001, 0, 0), (2, 10, "flat", 0, 6, 0),
                      (2, 10, "flat", 0, 0, 1001), (2, 10, "flat", 0, 0, None), Clock(2, base=10)]:
            self.refused(house, deed(clock=clock), NoClock)
        self.refused(house, deed(rule="three", names=("ada", "bob", "cyd")), NoClock)
        self.told(house, good, None)


class Heard(Case):
    def test_what_the_table_tells(self):
        house = house_of(deeds=[OPEN, ("tick", 3)])
        twin = Table("nim", RULES["long"], Clock(2, base=100), [MEMBERS["ada"], MEMBERS["bob"]], digest)
        twin.starts(0)
        first = sent(house, "nim", "ada", UP)
        for name, deed, parts, word in [
            ("ada", UP, {}, "done"), ("ada", None, {}, "again"), ("bob", UP, {}, "void"),
            ("bob", EVEN, {"place": 3}, "waits"), ("bob", EVEN, {"place": 77}, "far"),
            ("bob", EVEN, {"key": "wrong"}, "forged"), ("bob", EVEN, {"ahead": 5}, "torn"),
            ("bob", EVEN, {"mark": 5}, "drift"), ("ada", EVEN, {"place": 1}, "two"), ("bob", EVEN, {}, "over"),
        ]:
            letter = first if deed is None else sent(house, "nim", name, deed, **parts)
            self.assertEqual(twin.hear(letter, 3), word)
            self.told(house, ("hear", letter), word)
            self.assertEqual((house.table("nim").entries(), house.table("nim").catch()),
                             (twin.entries(), twin.catch()))

    def test_none(self):
        house = house_of(deeds=[OPEN])
        right = sent(house, "nim", "ada", UP)
        for thing in [*OTHERS, 0, list(right), right[:9], (*right, 0), ("ask", "nim", 1), (*right[:1], "nym", *right[2:]),
                      (*right[:2], 2, *right[3:]), (*right[:2], 3, *right[3:]), (*right[:2], 4, *right[3:])]:
            self.told(house, ("hear", thing), "none")
            self.told(house, ("claim", thing, thing), "none")
            self.told(house, ("claim", thing, right), "none")
            self.told(house, ("claim", right, thing), "none")
        self.assertEqual(len(house.table("nim")), 1)


class Ticks(Case):
    def test_tick(self):
        house = house_of(deeds=[OPEN, ("open", "chess", "three", ("cyd", "dan", "eve"), CLOCKS[3])])
        for n, now in [(1, 1), (98, 99), (10000, 10099)]:
            self.told(house, ("tick", n), None)
            self.assertEqual(house.now(), now)
        for game, player in [("nim", 0), ("chess", 0)]:
            self.assertEqual(house.table(game).entries(), [("open", 0), ("fall", 100, player)])

    def test_all_tables_are_told(self):
        house = house_of(deeds=[OPEN, ("tick", 40), ("open", "chess", "long", ("bob", "ada"), CLOCK), ("tick", 60)])
        self.assertEqual(house.table("nim").entries()[-1], ("fall", 100, 0))
        self.assertEqual(house.table("chess").entries(), [("open", 40)])
        house.do(("tick", 39))
        self.assertEqual(house.table("chess").entries(), [("open", 40)])
        house.do(("tick", 1))
        self.assertEqual(house.table("chess").entries(), [("open", 40), ("fall", 140, 0)])

    def test_day(self):
        house = house_of()
        for day in range(1, 401):
            self.told(house, ("day",), None)
            self.assertEqual(house.today(), day)
        self.refused(house, ("day",), NoDay, 401)
        self.assertEqual((house.today(), house.now()), (400, 0))
        self.told(house, ("open", "nim", "over", ("ada", "bob"), CLOCK), None)
        self.over(house, "nim", (0, 2), 400)


class Results(Case):
    def test_over_at_its_opening(self):
        house = house_of(deeds=[("day",), ("open", "nim", "over", ("bob", "ada"), CLOCK)])
        self.over(house, "nim", (0, 2), 1)
        house.do(("day",))
        house.do(("tick", 500))
        self.over(house, "nim", (0, 2), 1)

    def test_by_a_letter(self):
        house = house_of(deeds=[("open", "nim", "take", ("ada", "bob"), CLOCK)])
        for day, (name, deed) in enumerate([("ada", TWO), ("bob", TWO), ("ada", ONE)]):
            self.over(house, "nim", None, None)
            self.told(house, ("hear", sent(house, "nim", name, deed)), "done")
            self.assertEqual(house.today(), day)
            if day < 2:
                house.do(("day",))
        self.over(house, "nim", (2, 0), 2)
        house = house_of(deeds=[OPEN, ("day",)])
        house.do(("hear", sent(house, "nim", "bob", GIVE)))
        self.over(house, "nim", (2, 0), 1)
        self.told(house, ("hear", sent(house, "nim", "ada", GIVE)), "over")
        self.over(house, "nim", (2, 0), 1)

    def test_by_two_letters_of_one_place(self):
        house = house_of(deeds=[OPEN, ("day",)])
        one, other = sent(house, "nim", "ada", UP), sent(house, "nim", "ada", EVEN)
        house.do(("hear", one))
        self.told(house, ("hear", other), "two")
        self.over(house, "nim", (0, 2), 1)
        self.assertEqual(house.table("nim").entries()[-1], ("two", 0, one, other))

    def test_by_a_claim(self):
        house = house_of(deeds=[("open", "nim", "three", ("ada", "bob", "cyd"), CLOCKS[3]), ("day",), ("tick", 5)])
        one, other = sent(house, "nim", "bob", UP, place=40), sent(house, "nim", "bob", EVEN, place=40)
        for pair in [(one, one), (one, sent(house, "nim", "bob", EVEN, place=40, key="wrong")),
                     (one, sent(house, "nim", "ada", EVEN, place=40))]:
            self.told(house, ("claim", *pair), "none")
        self.over(house, "nim", None, None)
        self.told(house, ("claim", other, one), "struck")
        self.over(house, "nim", (2, 0, 2), 1)
        self.assertEqual((house.table("nim").entries()[-1], house.table("nim").catch()),
                         (("two", 5, other, one), (other, one)))
        self.told(house, ("claim", other, one), "none")
        self.over(house, "nim", (2, 0, 2), 1)

    def test_several_by_one_tick(self):
        house = house_of()
        for game, names in [("c", ("ada", "bob")), ("a", ("bob", "cyd")), ("b", ("cyd", "dan"))]:
            house.do(("open", game, "long", names, CLOCK))
        house.do(("day",))
        house.do(("hear", sent(house, "a", "bob", UP)))
        house.do(("tick", 100))
        self.assertEqual(house.book().results(), [
            ("a", 1, ("bob", "cyd"), (2, 0)), ("b", 1, ("cyd", "dan"), (0, 2)), ("c", 1, ("ada", "bob"), (0, 2)),
        ])
        self.assertEqual([house.day_of(game) for game in "abc"], [1, 1, 1])

    def test_ratings_by_that_day(self):
        house = house_of(deeds=[OPEN, ("day",), ("day",)])
        house.do(("hear", sent(house, "nim", "bob", GIVE)))
        house.do(("day",))
        self.assertEqual([house.rating("ada", day=day) for day in [0, 1, 2, 3, 400]], [1000, 1000, 1020, 1020, 1020])
        self.assertEqual((house.rating("ada"), house.rating(name="bob", day=None)), (1020, 980))


class Caught(Case):
    def played(self):
        """A game that ada has won, with what she told in it, and a day gone since."""
        house = house_of(deeds=[("open", "nim", "three", ("ada", "bob", "cyd"), CLOCKS[3]), ("day",)])
        one, other = sent(house, "nim", "ada", UP), sent(house, "nim", "ada", EVEN)
        house.do(("hear", one))
        house.do(("hear", sent(house, "nim", "bob", GIVE)))
        house.do(("day",))
        self.over(house, "nim", (2, 0, 2), 1)
        return house, one, other

    def test_of_a_game_that_was_over_mends_the_book_not_the_record(self):
        for word in ["hear", "claim"]:
            house, one, other = self.played()
            entries, world = house.table("nim").entries(), house.table("nim").world()
            if word == "hear":
                self.told(house, ("hear", other), "two")
            else:
                self.told(house, ("claim", one, other), "struck")
            self.over(house, "nim", (0, 2, 2), 1)
            self.assertEqual((house.table("nim").entries(), house.table("nim").world()), (entries, world))
            self.assertEqual(house.table("nim").catch(), (one, other))

    def test_once(self):
        house, one, other = self.played()
        bob = [sent(house, "nim", "bob", deed, place=5) for deed in [UP, EVEN]]
        self.told(house, ("claim", *bob), "struck")
        self.over(house, "nim", (2, 0, 2), 1)
        self.assertEqual(house.table("nim").catch(), tuple(bob))
        # Only one catch is kept: that of ada, which comes later, mends nothing.
        self.told(house, ("hear", other), "two")
        self.told(house, ("claim", one, other), "none")
        self.over(house, "nim", (2, 0, 2), 1)

    def test_of_one_that_fell_and_one_over_at_its_opening(self):
        house = house_of(deeds=[OPEN, ("tick", 100), ("open", "chess", "over", ("ada", "bob"), CLOCK)])
        self.over(house, "nim", (0, 2), 0)
        self.over(house, "chess", (0, 2), 0)
        for game in ["nim", "chess"]:
            pair = [sent(house, game, "bob", deed, place=2) for deed in [GIVE, EVEN]]
            self.told(house, ("claim", *pair), "struck")
            self.over(house, game, (2, 0), 0)

    def test_ratings_behind_it(self):
        house, _, other = self.played()
        self.assertEqual(house.rating("bob"), 960)
        house.do(("hear", other))
        self.assertEqual([house.rating(name) for name in ["ada", "bob", "cyd"]], [960, 1020, 1020])


class Cups(Case):
    def test_cup(self):
        house = house_of(deeds=[CUP])
        self.told(house, ("cup", "abcdef", ["eve", "dan"], 9, "take", CLOCK), None)
        self.assertEqual(house.cups(), ["abcdef", "spring"])
        self.assertEqual(house.cup_asked("spring"), (("ada", "bob", "cyd"), 3))
        self.assertEqual(house.cup_asked(cup="abcdef"), (("eve", "dan"), 9))
        self.assertEqual((house.cup_rounds(cup="spring"), house.games()), ([], []))
        self.assertEqual(house.cup_standing(cup="spring"),
                         [("ada", 0, 0, 0), ("bob", 0, 0, 0), ("cyd", 0, 0, 0)])

    def test_refused(self):
        house = house_of(deeds=[CUP])
        good = ("cup", "autumn", ("ada", "bob", "cyd"), 3, "long", CLOCK)

        def deed(**parts):
            at = {"cup": 1, "names": 2, "rounds": 3, "rule": 4, "clock": 5}
            row = list(good)
            for part in parts:
                row[at[part]] = parts[part]
            return tuple(row)

        later = {"names": ("zoe",), "rounds": 0, "rule": "nosuch", "clock": None}
        for cup in ["spring", "abcdefg", "abcdefgh"]:
            self.refused(house, deed(cup=cup), NoName, cup)
            self.refused(house, deed(cup=cup, **later), NoName, cup)
        for names, name in [(("ada", "zoe"), "zoe"), (["ada", "ada"], "ada"), (("ada", "bob", "ada"), "ada"),
                            (("long", "ada"), "long")]:
            self.refused(house, deed(names=names), NoName, name)
            self.refused(house, deed(**{**later, "names": names}), NoName, name)
        for names in [(), [], ("ada",)]:
            self.refused(house, deed(names=names), NoPairing)
            self.refused(house, deed(**{**later, "names": names}), NoPairing)
        for rounds in [*NO_NUMBERS, 0, -1, 10, 10 ** 39]:
            self.refused(house, deed(rounds=rounds), NoPairing)
            self.refused(house, deed(rounds=rounds, rule="nosuch", clock=None), NoPairing)
        for rule in ["nosuch", "ada", "spring"]:
            self.refused(house, deed(rule=rule), NoName, rule)
            self.refused(house, deed(rule=rule, clock=None), NoName, rule)
        for rule in ["three", "four"]:
            self.refused(house, deed(rule=rule), NoRule)
            self.refused(house, deed(rule=rule, clock=CLOCKS[3]), NoRule)
            self.refused(house, deed(rule=rule, clock=None), NoRule)
        for clock in [*OTHERS, 0, list(CLOCK), CLOCKS[3], (2, 0, "flat", 0, 0, 0)]:
            self.refused(house, deed(clock=clock), NoClock)
        self.told(house, good, None)

    def test_eleven_names(self):
        house = house_of(deeds=[("member", name, "key") for name in "abcdef"])
        names = ["ada", "bob", "cyd", "dan", "eve", *"abcdef"]
        self.refused(house, ("cup", "spring", names, 3, "long", CLOCK), NoPairing)
        self.told(house, ("cup", "spring", names[:10], 3, "long", CLOCK), None)
        self.told(house, ("round", "spring"), ["springa" + letter for letter in "abcde"])

    def test_round(self):
        house = house_of(deeds=[("cup", "spring", ("eve", "ada", "bob", "cyd", "dan"), 3, "long",
                                 (2, 60, "grace", 4, 0, 7)), ("tick", 9)])
        self.told(house, ("round", "spring"), ["springaa", "springab"])
        self.assertEqual(house.games(), ["springaa", "springab"])
        self.assertEqual([house.names_of(game) for game in house.games()], [("eve", "ada"), ("bob", "cyd")])
        self.assertEqual(house.cup_rounds("spring"), [([("eve", "ada"), ("bob", "cyd")], "dan")])
        for game in house.games():
            table = house.table(game)
            self.assertEqual((table.entries(), table.clock().told()), ([("open", 9)], (2, 60, "grace", 4, 0, 7)))
            self.assertEqual(table.world().cells(), (0,))
        self.told(house, ("hear", sent(house, "springaa", "eve", UP)), "done")

    def test_by_the_book_as_it_stands(self):
        house = house_of(deeds=[("cup", "spring", ("ada", "bob", "cyd", "dan"), 3, "long", CLOCK), ("round", "spring")])
        # No game has a result yet: all have nothing, and those ahead in the draw that haven't met meet.
        early = house.twin()
        early.do(("round", "spring"))
        self.assertEqual(early.cup_rounds("spring")[1], ([("ada", "cyd"), ("bob", "dan")], None))
        # Bob and cyd win.
        one, other = sent(house, "springaa", "bob", UP, place=3), sent(house, "springaa", "bob", EVEN, place=3)
        house.do(("hear", sent(house, "springaa", "ada", GIVE)))
        house.do(("hear", sent(house, "springab", "dan", GIVE)))
        self.assertEqual([row[:2] for row in house.cup_standing("spring")],
                         [("bob", 2), ("cyd", 2), ("ada", 0), ("dan", 0)])
        plain, late = house.twin(), house.twin()
        plain.do(("round", "spring"))
        self.assertEqual(plain.cup_rounds("spring")[1], ([("dan", "ada"), ("bob", "cyd")], None))
        # Bob is caught later: ada has 2, bob 0, and the next round goes by that.
        late.do(("claim", one, other))
        late.do(("round", "spring"))
        self.assertEqual(late.cup_rounds("spring")[1], ([("ada", "cyd"), ("bob", "dan")], None))
        self.assertEqual([row[:2] for row in late.cup_standing("spring")],
                         [("ada", 2), ("cyd", 2), ("bob", 0), ("dan", 0)])
        # What was paired ahead of it stays.
        plain.do(("claim", one, other))
        self.assertEqual(plain.cup_rounds("spring")[1], ([("dan", "ada"), ("bob", "cyd")], None))
        self.assertEqual([row[:2] for row in plain.cup_standing("spring")],
                         [("ada", 2), ("cyd", 2), ("bob", 0), ("dan", 0)])

    def test_who_sat_out(self):
        house = house_of(deeds=[CUP, ("round", "spring")])
        house.do(("hear", sent(house, "springaa", "bob", GIVE)))
        # Ada has 2, and cyd, who sat out: bob has least, so he sits out next.
        self.told(house, ("round", "spring"), ["springba"])
        self.assertEqual(house.cup_rounds("spring"), [([("ada", "bob")], "cyd"), ([("cyd", "ada")], "bob")])
        # By the standing who sits out has nothing by that.
        self.assertEqual(house.cup_standing("spring"), [("ada", 2, 0, 1), ("bob", 0, 2, 0), ("cyd", 0, 0, 0)])

    def test_round_refused(self):
        house = house_of(deeds=[CUP, ("open", "spring", "long", ("ada", "bob"), CLOCK)])
        for cup in ["nosuch", "ada", "long", "abcdefgh"]:
            self.refused(house, ("round", cup), NoName, cup)
        for lap in range(3):
            house.do(("round", "spring"))
        self.refused(house, ("round", "spring"), Over)
        house.do(("cup", "short", ("ada", "bob"), 9, "long", CLOCK))
        house.do(("round", "short"))
        self.refused(house, ("round", "short"), NoPairing)

    def test_a_game_that_would_be_opened_and_stands(self):
        names = ("ada", "bob", "cyd", "dan")
        for standing_games, first in [(["xaa"], "xaa"), (["xab"], "xab"), (["xab", "xaa"], "xaa")]:
            house = house_of(deeds=[("cup", "x", names, 1, "long", CLOCK)])
            for game in standing_games:
                house.do(("open", game, "long", ("ada", "bob"), CLOCK))
            self.refused(house, ("round", "x"), NoName, first)
            self.assertEqual(house.cup_rounds("x"), [])
        house = house_of(deeds=[("cup", "x", names, 1, "long", CLOCK), ("open", "xba", "long", ("ada", "bob"), CLOCK)])
        self.told(house, ("round", "x"), ["xaa", "xab"])
        self.refused(house, ("round", "x"), Over)

    def test_games_over_at_their_opening(self):
        house = house_of(deeds=[("cup", "x", ("ada", "bob", "cyd", "dan"), 3, "over", CLOCK), ("day",)])
        self.told(house, ("round", "x"), ["xaa", "xab"])
        self.over(house, "xaa", (0, 2), 1)
        self.over(house, "xab", (0, 2), 1)
        house.do(("round", "x"))
        self.assertEqual(house.cup_rounds("x")[1], ([("ada", "cyd"), ("bob", "dan")], None))


class Logs(Case):
    def ends(self, many):
        return [(word, k) for k in range(1, many + 1) for word in ("begin", "end")]

    def test_both_ends(self):
        house = House(digest)
        deeds = [*first_deeds(), OPEN, OPEN, ("day",), None, [], "x", ("tick", 0), ("tick", 5), ("round", "x")]
        for many, deed in enumerate(deeds, start=1):
            try:
                house.do(deed)
            except SteadError:
                pass
            self.assertEqual(house.log(), self.ends(many))
        self.assertEqual(house.deeds(), [*first_deeds(), OPEN, ("day",), ("tick", 5)])

    def test_a_digest_that_raises(self):
        by = Digest()
        house = house_of(by=by, deeds=[OPEN])
        many = len(house.deeds())
        one, other = sent(house, "nim", "ada", UP), sent(house, "nim", "ada", EVEN)
        for deed in [("hear", one), ("claim", one, other), ("hear", one), ("hear", other)]:
            ahead, plain = house_told(house, log=False), len(by.asked)
            house.twin().do(deed)
            asked = len(by.asked) - plain
            self.assertGreater(asked, 0)
            for at in range(1, asked + 1):
                by.fail_at(at)
                with self.assertRaises(DigestFails):
                    house.do(deed)
                by.fails_at = None
                many += 1
                self.assertEqual(house.log(), self.ends(many))
                self.assertEqual(house_told(house, log=False), ahead)
            house.do(deed)
            many += 1
            self.assertEqual(house.log(), self.ends(many))
        self.assertTrue(all([type(text) is str for text in by.asked]))

    def test_whenever_it_is_asked(self):
        # Also by the digest, in the midst of a deed.
        logs = []

        def asking(text):
            logs.append(house.log())
            return digest(text)

        house = house_of(by=asking, deeds=[OPEN])
        house.do(("hear", sent(house, "nim", "ada", UP)))
        self.assertGreater(len(logs), 0)
        for log in logs:
            self.assertEqual(log, self.ends(len(log) // 2))

    def test_deeds(self):
        house = house_of()
        letter = sealed("adakey", digest, game="nym", player=0, place=1, deed=UP)
        for deed, kept in [
            (("open", "nim", "long", ["ada", "bob"], CLOCK), OPEN), (("cup", *CUP[1:2], list(CUP[2]), *CUP[3:]), CUP),
            (("hear", letter), ("hear", letter)), (("hear", list(letter)), ("hear", None)),
            (("hear", {"a": [1]}), ("hear", None)), (("hear", None), ("hear", None)),
            (("claim", letter, 5), ("claim", letter, None)), (("claim", [], letter), ("claim", None, letter)),
            (("claim", letter, letter), ("claim", letter, letter)), (("claim", (), ()), ("claim", None, None)),
            (("day",), ("day",)), (("tick", 7), ("tick", 7)), (("round", "spring"), ("round", "spring")),
        ]:
            house.do(deed)
            self.assertEqual(house.deeds()[-1], kept)
            self.assertEqual(repr(house.deeds()[-1]), repr(kept))

    def test_what_was_handed_in_changed_behind(self):
        house = house_of()
        names, more = ["ada", "bob"], ["ada", "bob", "cyd"]
        house.do(("open", "nim", "long", names, CLOCK))
        house.do(("cup", "spring", more, 3, "long", CLOCK))
        ahead = house_told(house)
        for rows in [names, more]:
            rows.reverse()
            rows.append("zoe")
        self.assertEqual(house_told(house), ahead)


class Told(Case):
    def test_no_game(self):
        house = house_of(deeds=[OPEN, CUP])
        for thing in [*NO_NUMBERS, 0, "nym", "Nim", "spring", "springaa", ["nim"], ("nim",)]:
            for do in [house.table, house.names_of, house.day_of]:
                with self.assertRaises(NoGame, msg=repr(thing)) as caught:
                    do(thing)
                self.assertEqual(repr(caught.exception.game), repr(thing))
        self.assertIs(house.table(game="nim"), house.table("nim"))
        self.assertIsNone(house.day_of(game="nim"))

    def test_no_cup(self):
        house = house_of(deeds=[OPEN, CUP])
        for thing in [*NO_NUMBERS, 0, "nim", "Spring", "ada", ["spring"], ("spring",)]:
            for do in [house.cup_standing, house.cup_rounds, house.cup_asked]:
                with self.assertRaises(NoCup, msg=repr(thing)) as caught:
                    do(thing)
                self.assertEqual(repr(caught.exception.cup), repr(thing))

    def test_rating(self):
        ladder = Ladder(first=500, wide=200, steps=((None, 10),))
        house = house_of(ladder=ladder, deeds=[("day",), ("open", "nim", "over", ("ada", "bob"), CLOCK), ("day",)])
        self.assertEqual([house.rating(name) for name in ["ada", "bob", "cyd"]], [495, 505, 500])
        self.assertEqual([house.rating("ada", day=day) for day in [0, 1, 2, 400]], [500, 495, 495, 495])
        for thing in [*NO_NUMBERS, 0, "zoe", "Ada", ["ada"], "nim"]:
            for day in [None, 0, -1]:
                with self.assertRaises(NoName, msg=repr(thing)) as caught:
                    house.rating(thing, day=day)
                self.assertEqual(repr(caught.exception.name), repr(thing))
        for thing in [True, False, "", "1", [], (), -1, 401]:
            with self.assertRaises(NoDay) as caught:
                house.rating("ada", day=thing)
            self.assertEqual(repr(caught.exception.day), repr(thing))
        self.assertEqual(house.rating("ada"), rating(house.book(), "ada", 2, ladder=house.ladder()))

    def test_what_is_told_is_the_askers_own(self):
        house = house_of(deeds=[OPEN, CUP, ("round", "spring"), ("tick", 100)])
        ahead = house_told(house)
        house.log().clear()
        house.deeds().clear()
        members = house.members()
        members["zoe"] = "key"
        members.clear()
        house.games().append("x")
        house.cups().clear()
        house.cup_standing("spring").clear()
        house.cup_rounds("spring")[0][0].clear()
        house.cup_rounds("spring").clear()
        book = house.book()
        book.strike("nim")
        book.tell(("new", 0, ("ada", "bob"), (1, 1)))
        house.table("nim").entries().clear()
        house.twin().do(("round", "spring"))
        self.assertEqual(house_told(house), ahead)
        self.assertEqual(house_told(house), ahead)

    def test_a_list_that_round_told(self):
        house = house_of(deeds=[CUP])
        told = house.do(("round", "spring"))
        told.clear()
        self.assertEqual(house.games(), ["springaa"])

    def test_cup_standing(self):
        house = house_of(deeds=[CUP, ("round", "spring"), ("open", "nim", "over", ("ada", "cyd"), CLOCK)])
        house.do(("hear", sent(house, "springaa", "ada", GIVE)))
        counted = [result for result in house.book().results() if result[0] == "springaa"]
        self.assertEqual(house.cup_standing("spring"), standing(["ada", "bob", "cyd"], counted))
        self.assertEqual(house.cup_standing("spring"), [("bob", 2, 0, 1), ("ada", 0, 2, 0), ("cyd", 0, 0, 0)])


class Twins(Case):
    def test_go_their_own_ways(self):
        house = house_of(deeds=[OPEN, CUP, ("round", "spring"), ("day",)])
        house.do(("hear", sent(house, "nim", "bob", EVEN, place=2, ahead=sent(house, "nim", "bob", EVEN)[9])))
        first, ahead = sent(house, "nim", "bob", EVEN), house_told(house)
        twin = house.twin()
        self.assertEqual(house_told(twin), ahead)
        for deed in [("member", "zoe", "key"), ("rule", "new", rule_text(RULES["take"])), ("round", "spring"),
                     ("open", "chess", "new", ("zoe", "bob"), CLOCK), ("hear", first), ("tick", 100), ("day",),
                     ("cup", "more", ("zoe", "ada"), 1, "new", CLOCK)]:
            twin.do(deed)
        self.assertEqual(house_told(house), ahead)
        behind = house_told(twin)
        # What waits is waiting in both.
        self.assertEqual([entry[0] for entry in twin.table("nim").entries()], ["open", "deed", "deed", "fall"])
        house.do(("hear", first))
        self.assertEqual(len(house.table("nim")), 3)
        house.do(("tick", 100))
        self.assertEqual(house_told(twin), behind)
        with self.assertRaises(NoName):
            house.do(("open", "chess", "new", ("ada", "bob"), CLOCK))


class AllDone(Case):
    def test_all(self):
        house, other = house_of(), house_of()
        deeds = [OPEN, ("tick", 5), ("cup", "spring", ["ada", "bob", "cyd"], 3, "long", CLOCK), ("round", "spring"),
                 ("hear", None), ("hear", sent(house_of(deeds=[OPEN]), "nim", "ada", GIVE)), ("day",)]
        handed = copy.deepcopy(deeds)
        told = [other.do(deed) for deed in deeds]
        self.assertEqual(house.all_done(deeds), told)
        self.assertEqual(told, [None, None, None, ["springaa"], "none", "done", None])
        self.assertEqual(house_told(house), house_told(other))
        self.assertEqual(deeds, handed)
        self.assertEqual(house.all_done(deeds=(("day",), ("day",))), [None, None])
        self.assertEqual((house.today(), house.all_done([]), house.all_done(())), (3, [], []))

    def test_none(self):
        house = house_of(deeds=[OPEN, CUP])
        rights = [("hear", sent(house, "nim", "ada", UP)), ("member", "zoe", "key"), ("round", "spring"), ("tick", 50),
                  ("rule", "new", rule_text(RULES["take"])), ("day",), ("open", "chess", "new", ("zoe", "ada"), CLOCK)]
        for wrong in [None, ("day", 1), ("member", "ada", "key"), ("round", "nosuch"), ("tick", 0), OPEN,
                      ("member", "fay", 5), ("rule", "more", "x")]:
            for at in range(len(rights) + 1):
                ahead, many = house_told(house, log=False), len(house.log())
                with self.assertRaises(NoDeed) as caught:
                    house.all_done([*rights[:at], wrong, *rights[at:], None])
                self.assertEqual(caught.exception.at, at)
                self.assertEqual(house_told(house, log=False), ahead)
                # Both ends of those that were done first, and of the one that was refused.
                self.assertEqual(len(house.log()), many + 2 * (at + 1))
                self.assertEqual(house.log(), [(word, k) for k in range(1, len(house.log()) // 2 + 1)
                                               for word in ("begin", "end")])
        self.assertEqual(house.all_done(rights)[:3], ["done", None, ["springaa"]])

    def test_no_list(self):
        house = house_of()
        for thing in [None, True, 0, 5, "", "day", {}, {0: ("day",)}]:
            ahead = house_told(house, log=False)
            with self.assertRaises(NoDeed) as caught:
                house.all_done(thing)
            self.assertEqual(caught.exception.at, 0)
            self.assertEqual(house_told(house, log=False), ahead)

    def test_a_digest_that_raises(self):
        by = Digest()
        house = house_of(by=by, deeds=[OPEN])
        deeds = [("tick", 5), ("hear", sent(house, "nim", "ada", UP)), ("day",), ("hear", sent(house, "nim", "bob", UP))]
        plain = len(by.asked)
        house.twin().all_done(deeds)
        asked, ahead = len(by.asked) - plain, house_told(house, log=False)
        for at in range(1, asked + 1):
            by.fail_at(at)
            with self.assertRaises(DigestFails):
                house.all_done(deeds)
            by.fails_at = None
            self.assertEqual(house_told(house, log=False), ahead)
            self.assertEqual(len(house.log()) % 2, 0)
        self.assertEqual(house.all_done(deeds), [None, "done", None, "void"])

    def test_a_table_that_was_told_stays_the_very_one(self):
        house = house_of(deeds=[OPEN])
        table = house.table("nim")
        house.all_done([("hear", sent(house, "nim", "ada", UP))])
        self.assertIs(house.table("nim"), table)
        self.assertEqual(len(table), 2)


class Led(Case):
    def test_stands_as_that_house(self):
        for seed in range(25):
            house = chance_house(random.Random(seed))
            for ladder in [house.ladder(), Ladder(first=1, least=0)]:
                other = led(digest, house.deeds(), ladder=ladder)
                self.assertEqual(other.deeds(), house.deeds())
                self.assertEqual(house_told(other, log=False)[:10], house_told(house, log=False)[:10])
            other = led(digest=digest, deeds=tuple(house.deeds()), ladder=house.ladder())
            self.assertEqual(house_told(other, log=False), house_told(house, log=False))
            # What can't be seen stands so, too: it goes on as the house does.
            going = [("tick", 3), ("day",), *[("hear", deed[1]) for deed in house.deeds() if deed[0] == "hear"]]
            self.assertEqual(other.all_done(going), house.twin().all_done(going))

    def test_refused(self):
        for thing in [*OTHERS[1:], 0, Ladder().told()]:
            for deeds in [[], None]:
                with self.assertRaises(NoLadder):
                    led(digest, deeds, ladder=thing)
        for deeds, at in [(None, 0), ("day", 0), ({}, 0), (5, 0), ([None], 0), ([("day",), ("tick", 0)], 1),
                          ([*first_deeds(), OPEN, OPEN], len(first_deeds()) + 1)]:
            with self.assertRaises(NoDeed) as caught:
                led(digest, deeds)
            self.assertEqual(caught.exception.at, at)

    def test_its_log(self):
        house = led(digest, [("day",), ("day",)])
        self.assertEqual(house.log(), [("begin", 1), ("end", 1), ("begin", 2), ("end", 2)])
        self.assertEqual((house.today(), house.ladder().told()), (2, Ladder().told()))


class Any(Case):
    def test_whatever_is_done(self):
        words = {}
        for seed in range(25):
            house = chance_house(random.Random(seed))
            results = {result[0]: result for result in house.book().results()}
            for game in house.games():
                table = house.table(game)
                day, points, caught = house.day_of(game), table.world().points(), table.catch()
                words[(table.world().why(), caught is not None)] = True
                if caught is not None:
                    points = tuple([0 if player == caught[0][2] else 2 for player in range(len(points))])
                self.assertEqual(day is None, points is None)
                self.assertEqual(results.pop(game, None),
                                 None if day is None else (game, day, house.names_of(game), points))
            self.assertEqual(results, {})
            for cup in house.cups():
                names, asked = house.cup_asked(cup)
                self.assertLessEqual(len(house.cup_rounds(cup)), asked)
                self.assertEqual(sorted([row[0] for row in house.cup_standing(cup)]), sorted(names))
            self.assertEqual(len(house.log()), 2 * (len(first_deeds()) + 70))
        # Games were over in many ways, and players were caught in games that were over.
        for word in ["stuck", "given", "fall", "two", None]:
            self.assertIn(word, [why for why, _ in words])
        self.assertIn(("given", True), words)
        self.assertIn(("two", True), words)


if __name__ == "__main__":
    unittest.main()
