"""The form of the package: which file defines which name, and what the language rules ask of each file."""

import ast
import inspect
import os
import unittest

from playstead import (
    books, clocks, cups, desk, errors, houses, judging, ladders, letters, nets, pairings, records, rules, ruletexts,
    seats, tables, words, worlds,
)

HOME = os.path.join(os.path.dirname(os.path.dirname(os.path.abspath(__file__))), "playstead")

# The stage of each file: a file uses those of its own and of earlier stages alone.
STAGES = {
    "__init__": 0, "errors": 1, "words": 1, "rules": 1, "ruletexts": 1, "worlds": 2, "clocks": 3, "letters": 4,
    "courses": 5, "tables": 5, "seats": 6, "nets": 6, "records": 7, "books": 8, "ladders": 8, "pairings": 9,
    "cups": 9, "deeds": 10, "houses": 10, "judging": 11, "desk": 12,
}

# What the interface lists under each file: functions and classes, then plain names.
DEFINED = {
    "errors": [
        "SteadError", "NoRule", "NoText", "NoMove", "NoPlayer", "Over", "NoClock", "NoTime", "Fallen", "NoLetter",
        "NoKey", "NoTable", "NoEntry", "NoNews", "Drift", "NoWish", "TooMany", "NoPlace", "NoRecord", "NoResult",
        "NoGame", "NoLadder", "NoDay", "NoName", "NoCup", "NoPairing", "NoDeed",
    ],
    "words": ["is_name"],
    "rules": ["Rule"],
    "ruletexts": ["rule_text", "read_rule"],
    "worlds": ["World"],
    "clocks": ["Clock"],
    "letters": ["is_letter", "is_key", "letter_text", "read_letter", "sealed", "is_sealed", "are_two"],
    "tables": ["Table"],
    "seats": ["Seat"],
    "nets": ["Net"],
    "records": ["Replay", "record_of", "record_text", "read_record", "flaw"],
    "books": ["Book"],
    "ladders": ["Ladder", "rating", "ratings", "because", "ripple"],
    "pairings": ["paired", "standing"],
    "cups": ["Cup"],
    "houses": ["House", "led"],
    "judging": ["books_of", "judged", "leads", "sums"],
    "desk": ["Desk", "deed_text", "read_deed"],
}
ASSIGNED = {
    "rules": ["MOST", "LOSE", "EVEN"],
    "worlds": ["GIVEN", "FALL", "TWO"],
    "clocks": ["FLAT", "PLUS", "GRACE", "PARTS"],
    "ladders": ["FIRST", "WIDE", "LEAST"],
}
METHODS = {
    ("rules", "Rule"): ["__init__", "told", "__eq__"],
    ("worlds", "World"): [
        "__init__", "cells", "turn", "allowed", "play", "give", "even", "points", "why", "played", "evens", "__len__",
        "__eq__", "twin", "text", "mark",
    ],
    ("clocks", "Clock"): [
        "__init__", "begin", "press", "stop", "left", "falls", "running", "told", "__eq__", "twin", "fresh",
    ],
    ("tables", "Table"): [
        "__init__", "starts", "hear", "mark", "tick", "claim", "entries", "world", "left", "clock", "next_place",
        "catch",
        "__len__", "news",
    ],
    ("seats", "Seat"): ["__init__", "hear", "known", "sure", "clock", "wish", "shown", "out", "sends"],
    ("nets", "Net"): ["__init__", "do", "under", "now", "table", "seat", "settle"],
    ("records", "Replay"): ["__init__", "world", "clock", "left", "moves", "points", "__len__"],
    ("books", "Book"): [
        "__init__", "tell", "mend", "strike", "results", "of", "days", "names", "twin", "__len__",
    ],
    ("ladders", "Ladder"): ["__init__", "told"],
    ("cups", "Cup"): ["__init__", "pair", "rounds", "points_by", "game_name"],
    ("houses", "House"): [
        "__init__", "do", "log", "deeds", "today", "now", "members", "games", "table", "book", "names_of", "day_of",
        "cups", "cup_standing", "cup_rounds", "cup_asked", "ladder", "rating", "twin", "all_done",
    ],
    ("desk", "Desk"): ["__init__", "say"],
}

# What each def and method takes.
TAKES = [
    (rules.Rule, "(start, moves, *, players=2, ends=(), most=40, stuck='lose')"),
    (rules.Rule.told, "(self)"),
    (words.is_name, "(thing)"),
    (errors.NoText, "(row)"),
    (ruletexts.rule_text, "(rule)"),
    (ruletexts.read_rule, "(text)"),
    (worlds.World, "(rule)"),
    (worlds.World.play, "(self, name)"),
    (worlds.World.give, "(self, player, *, why='given')"),
    (worlds.World.even, "(self, player)"),
    (worlds.World.mark, "(self, digest)"),
    (clocks.Clock, "(players, *, base, kind='flat', plus=0, parts=0, credit=0)"),
    (clocks.Clock.begin, "(self, player, time)"),
    (clocks.Clock.press, "(self, time, *, late=0)"),
    (clocks.Clock.stop, "(self, time)"),
    (clocks.Clock.left, "(self, player, time)"),
    (letters.is_letter, "(thing)"),
    (letters.is_key, "(thing)"),
    (letters.letter_text, "(letter)"),
    (letters.read_letter, "(text)"),
    (letters.sealed, "(key, digest, *, game, player, place, deed, ahead=0, seen=0, mark=0, stamp=0)"),
    (letters.is_sealed, "(letter, key, digest)"),
    (letters.are_two, "(one, other)"),
    (tables.Table, "(game, rule, clock, keys, digest)"),
    (tables.Table.starts, "(self, time)"),
    (tables.Table.hear, "(self, letter, time)"),
    (tables.Table.mark, "(self, n)"),
    (tables.Table.tick, "(self, time)"),
    (tables.Table.claim, "(self, one, other, time)"),
    (tables.Table.world, "(self, *, behind=None)"),
    (tables.Table.left, "(self, player, time)"),
    (tables.Table.next_place, "(self, player)"),
    (tables.Table.news, "(self, known)"),
    (seats.Seat, "(game, rule, clock, player, key, digest)"),
    (seats.Seat.hear, "(self, news)"),
    (seats.Seat.wish, "(self, deed, stamp)"),
    (nets.Net, "(table, seats)"),
    (nets.Net.do, "(self, deed)"),
    (nets.Net.under, "(self, player, way)"),
    (nets.Net.seat, "(self, player)"),
    (records.record_of, "(table)"),
    (records.record_text, "(record)"),
    (records.read_record, "(text)"),
    (records.flaw, "(record, *, keys=None, digest=None)"),
    (records.Replay, "(record)"),
    (records.Replay.world, "(self, n)"),
    (records.Replay.clock, "(self, n)"),
    (records.Replay.left, "(self, n, player, time)"),
    (books.Book, "()"),
    (books.Book.tell, "(self, result)"),
    (books.Book.mend, "(self, game, points)"),
    (books.Book.strike, "(self, game)"),
    (books.Book.of, "(self, name)"),
    (ladders.Ladder, "(*, first=1000, wide=400, steps=((10, 40), (None, 20)), least=100)"),
    (ladders.rating, "(book, name, day, *, ladder)"),
    (ladders.ratings, "(book, day, *, ladder)"),
    (ladders.because, "(book, name, day, *, ladder)"),
    (ladders.ripple, "(book, other, day, *, ladder)"),
    (pairings.paired, "(names, *, points, met=(), sat=(), firsts=None)"),
    (pairings.standing, "(names, results)"),
    (cups.Cup, "(cup, names, *, rounds)"),
    (cups.Cup.pair, "(self, points)"),
    (cups.Cup.points_by, "(self, results)"),
    (cups.Cup.game_name, "(self, lap, k)"),
    (houses.House, "(digest, *, ladder=None)"),
    (houses.House.do, "(self, deed)"),
    (houses.House.table, "(self, game)"),
    (houses.House.names_of, "(self, game)"),
    (houses.House.day_of, "(self, game)"),
    (houses.House.cup_standing, "(self, cup)"),
    (houses.House.cup_rounds, "(self, cup)"),
    (houses.House.cup_asked, "(self, cup)"),
    (houses.House.rating, "(self, name, *, day=None)"),
    (houses.House.all_done, "(self, deeds)"),
    (houses.led, "(digest, deeds, *, ladder=None)"),
    (judging.books_of, "(house)"),
    (judging.judged, "(books, digest)"),
    (judging.leads, "(house, name, day)"),
    (judging.sums, "(rows, ladder)"),
    (desk.deed_text, "(deed)"),
    (desk.read_deed, "(text)"),
    (desk.Desk, "(digest)"),
    (desk.Desk.say, "(self, row)"),
]


def text_of(name):
    with open(os.path.join(HOME, name + ".py"), "rb") as held:
        return held.read().decode("ascii")


def tree_of(name):
    return ast.parse(text_of(name))


def functions_of(name):
    return [node for node in ast.walk(tree_of(name)) if isinstance(node, ast.FunctionDef)]


class Files(unittest.TestCase):
    def test_the_folder_holds_these_files_alone(self):
        found = [name for name in os.listdir(HOME) if name != "__pycache__"]
        self.assertEqual(sorted(found), sorted([name + ".py" for name in STAGES]))

    def test_signs_lines_and_sizes(self):
        for name in STAGES:
            text = text_of(name)
            self.assertTrue(all([sign == "\n" or " " <= sign <= "~" for sign in text]), name)
            self.assertLessEqual(len(text.splitlines()), 399, name)
            self.assertLessEqual(max([len(row) for row in text.splitlines()]), 120, name)

    def test_functions_have_at_most_forty_lines(self):
        for name in STAGES:
            for node in functions_of(name):
                self.assertLessEqual(node.end_lineno - node.lineno + 1, 40, (name, node.name))

    def test_init_binds_nothing(self):
        for node in tree_of("__init__").body:
            self.assertIsInstance(node, ast.Expr)
            self.assertIsInstance(node.value, ast.Constant)

    def test_imports_from_stages_that_are_there(self):
        for name in STAGES:
            for node in ast.walk(tree_of(name)):
                self.assertNotIsInstance(node, ast.Import, name)
                if isinstance(node, ast.ImportFrom) and node.module != "math":
                    package, _, other = node.module.partition(".")
                    self.assertEqual((package, node.level), ("playstead", 0), name)
                    self.assertLessEqual(STAGES[other], STAGES[name], name)

    def test_no_decorators_and_no_percent_in_strings(self):
        for name in STAGES:
            for node in ast.walk(tree_of(name)):
                self.assertEqual(getattr(node, "decorator_list", []), [], name)
                if isinstance(node, ast.Constant) and isinstance(node.value, str):
                    self.assertNotIn("%", node.value, name)


class Interface(unittest.TestCase):
    def test_defined_in_the_file_that_lists_it(self):
        for name in DEFINED:
            body = tree_of(name).body
            found = [node.name for node in body if isinstance(node, (ast.FunctionDef, ast.ClassDef))]
            for word in DEFINED[name]:
                self.assertEqual(found.count(word), 1, (name, word))

    def test_plain_names(self):
        for name in ASSIGNED:
            body = [node for node in tree_of(name).body if isinstance(node, ast.Assign)]
            found = [node.targets[0].id for node in body]
            for word in ASSIGNED[name]:
                self.assertEqual(found.count(word), 1, (name, word))

    def test_methods_stand_in_the_class_itself(self):
        for name, kind in METHODS:
            for node in tree_of(name).body:
                if isinstance(node, ast.ClassDef) and node.name == kind:
                    found = [part.name for part in node.body if isinstance(part, ast.FunctionDef)]
                    for word in METHODS[name, kind]:
                        self.assertEqual(found.count(word), 1, (name, kind, word))

    def test_arguments(self):
        for thing, told in TAKES:
            self.assertEqual(str(inspect.signature(thing)), told, thing)


if __name__ == "__main__":
    unittest.main()
