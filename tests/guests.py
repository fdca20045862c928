"""What the tests of houses share: members, rules, houses, and houses that were led by any deeds."""

import copy

from makers import digest, letter_to, long_rule, take_rule
from playstead.errors import SteadError
from playstead.houses import House
from playstead.ladders import Ladder
from playstead.ruletexts import rule_text

UP, GIVE, EVEN = ("move", "up"), ("give",), ("even",)

MEMBERS = {"ada": "adakey", "bob": "bobkey", "cyd": "cydkey", "dan": "dankey", "eve": "evekey"}
RULES = {
    "take": take_rule(start=5), "long": long_rule(), "three": long_rule(players=3), "over": take_rule(start=0),
    "four": take_rule(start=9, players=4, stuck="even"),
}
CLOCK = (2, 100, "flat", 0, 0, 0)
CLOCKS = {players: (players, *CLOCK[1:]) for players in range(2, 5)}


def first_deeds():
    """The deeds by which a house has its members and rules."""
    return [
        *[("member", name, MEMBERS[name]) for name in MEMBERS],
        *[("rule", name, rule_text(RULES[name])) for name in RULES],
    ]


def house_of(*, by=digest, ladder=None, deeds=()):
    house = House(by, ladder=ladder)
    for deed in [*first_deeds(), *deeds]:
        house.do(deed)
    return house


def sent(house, game, name, deed, **parts):
    """The letter that a name who knows all of its game would send, or one with other parts."""
    player = house.names_of(game).index(name)
    right = {"game": game, "key": house.members()[name], "stamp": house.now()}
    return letter_to(house.table(game), player, deed, **{**right, **parts})


def house_told(house, *, log=True):
    """All that a house tells. A copy: what is told must be the asker's own, but that is to be tested."""
    games = {
        game: [
            house.table(game).entries(), house.table(game).world(), house.table(game).clock(),
            house.table(game).catch(), house.names_of(game), house.day_of(game),
            [house.table(game).mark(n) for n in range(len(house.table(game)) + 1)],
        ] for game in house.games()
    }
    cups = {cup: [house.cup_standing(cup), house.cup_rounds(cup), house.cup_asked(cup)] for cup in house.cups()}
    days = [None, 0, 1, 2, 3, 5, 9, 400]
    return copy.deepcopy([
        house.deeds(), house.today(), house.now(), house.members(), list(house.members()), house.games(), games,
        house.book().results(), house.cups(), cups, house.ladder().told(),
        {name: [house.rating(name, day=day) for day in days] for name in house.members()},
        house.log() if log else None,
    ])


def chance_house(chance, *, many=70):
    """A house that was led by any deeds, refused ones among them, its letters late, doubled or turned about."""
    house = house_of(ladder=chance.choice([None, Ladder(first=300, wide=90, steps=((2, 30), (None, 15)), least=250)]))
    letters = []
    for _ in range(many):
        deed = chance_house_deed(chance, house, letters)
        if deed[0] == "hear" and deed[1] is not None:
            letters.append(deed[1])
        try:
            house.do(deed)
        except SteadError:
            pass
    return house


def chance_house_deed(chance, house, letters):
    roll = chance.random()
    if roll < 0.6 and house.games():
        return ("hear", chance_house_letter(chance, house)) if chance.random() < 0.8 or not letters else (
            "hear", chance.choice(letters))
    if roll < 0.65 and house.games():
        one, other = chance_house_letter(chance, house), chance_house_letter(chance, house)
        if one is not None:
            key = list(house.members().values())
            player = house.names_of(one[1])[one[2]]
            other = sent(house, one[1], player, chance.choice([EVEN, GIVE]), place=one[3], key=house.members()[player])
            if chance.random() < 0.2:
                other = sent(house, one[1], player, EVEN, place=one[3], key=chance.choice(key))
        return ("claim", one, other)
    if roll < 0.75:
        return ("tick", chance.choice([1, 5, 20, 60, 0]))
    if roll < 0.8:
        return ("day",)
    if roll < 0.88:
        rule = chance.choice(list(RULES))
        many = RULES[rule].told()[2]
        names = chance.sample(list(MEMBERS), min(5, many + chance.choice([0, 0, 0, 1])))
        return ("open", chance.choice(["a", "b", "c", "d", "toolong"]), rule, names, CLOCKS[many])
    if roll < 0.92:
        names = chance.sample(list(MEMBERS), chance.randint(1, 5))
        return ("cup", chance.choice(["x", "y"]), names, chance.randint(1, 4), chance.choice(["take", "over", "three"]),
                (2, 80, "plus", 3, 0, 5))
    if roll < 0.98:
        return ("round", chance.choice(["x", "y"]))
    return chance.choice([("member", "zoe", "key"), ("hear", None), ("night",), ("member", "ada", "key")])


def chance_house_letter(chance, house):
    open_games = [game for game in house.games() if house.day_of(game) is None] or house.games()
    game = chance.choice(open_games + house.games()[:1])
    names = house.names_of(game)
    world = house.table(game).world()
    name = chance.choice([names[world.turn() or 0]] * 4 + list(names))
    deed = chance.choice([EVEN, EVEN, GIVE, UP])
    if world.allowed() and chance.random() < 0.85:
        deed = ("move", chance.choice(world.allowed()))
    parts = {"stamp": max(0, house.now() - chance.choice([0, 0, 1, 3]))}
    if chance.random() < 0.12:
        parts = {**parts, **chance.choice([{"place": 1}, {"place": 2}, {"key": "wrong"}, {"seen": 77}, {"ahead": 4}])}
    return sent(house, game, name, deed, **parts)
