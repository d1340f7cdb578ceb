"""Books for the tests, and what the document says of a row of scenes, worked out apart from the package."""

import itertools
import random

from shootdays.books import book_of

LIGHTS = ("sun", "moon", "any")
SCENE_NAMES = ("open", "chase", "end", "kiss", "storm", "duel", "feast", "dawn")
PLACE_NAMES = ("attic", "harbour", "market", "tower", "wood", "yard")
PLAYER_NAMES = ("ada", "bo", "cy", "dot", "eve", "fox")


def some_days(chance, many, odds):
    """A tuple of days of a book of so many, each with the odds."""
    return tuple(day for day in range(many) if chance.random() < odds)


def random_book(seed, days=3, places=2, players=2, scenes=4, most=12):
    """The book of this seed, with so many of each part and days of at most so many hours."""
    chance = random.Random(seed)
    day_rows = []
    for _ in range(days):
        hours = chance.choice((0, most, most, chance.randint(1, most)))
        day_rows.append((hours, chance.randint(0, hours)))
    place_rows = [(name, chance.randint(0, 50), some_days(chance, days, 0.15)) for name in PLACE_NAMES[:places]]
    player_rows = []
    for name in PLAYER_NAMES[:players]:
        pay = chance.randint(0, 90)
        away = some_days(chance, days, 0.15)
        player_rows.append((name, pay, chance.randint(0, pay), chance.randint(1, 3), away))
    scene_rows = []
    for name in SCENE_NAMES[:scenes]:
        cast = tuple(chance.sample(PLAYER_NAMES[:players], chance.randint(0, players)))
        place = chance.choice(PLACE_NAMES[:places])
        scene_rows.append((name, place, chance.randint(1, 4), chance.choice(LIGHTS), cast))
    return book_of(chance.randint(0, 99), chance.randint(0, 3), day_rows, place_rows, player_rows, scene_rows)


def random_case(book, seed, odds=0.7):
    """A case of the book, each scene laid with the odds."""
    chance = random.Random(seed)
    return tuple(chance.randrange(len(book[2])) if chance.random() < odds else None for _ in book[5])


def all_cases(book):
    """Every case of the book."""
    return itertools.product((None, *range(len(book[2]))), repeat=len(book[5]))


def hours_of(book, day, names):
    """(name, start, end) of each scene of a row."""
    move, (_, light) = book[1], book[2][day]
    scenes = {scene[0]: scene for scene in book[5]}
    told = []
    for name in names:
        _, place, length, word, _ = scenes[name]
        start = 0
        if told:
            start = told[-1][2] + (move if scenes[told[-1][0]][1] != place else 0)
        if word == "moon" and start < light:
            start = light
        told.append((name, start, start + length))
    return told


def has_slip(book, day, names):
    """Whether a scene of the row ends too late for its light or its day."""
    hours, light = book[2][day]
    words = {scene[0]: scene[3] for scene in book[5]}
    return any(end > (light if words[name] == "sun" else hours) for name, _, end in hours_of(book, day, names))


def fits(book, day, names):
    """Whether the scenes fit on the day."""
    return len(names) <= 5 and any(not has_slip(book, day, row) for row in itertools.permutations(names))
