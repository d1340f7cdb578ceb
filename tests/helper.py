"""Books for the tests, and what the document says of a row of scenes, worked out apart from the package."""

import itertools
import random

from shootdays.books import book_of

LIGHTS = ("sun", "moon", "any")
SCENE_NAMES = ("open", "chase", "end", "kiss", "storm", "duel", "feast", "dawn")
PLACE_NAMES = ("attic", "harbour", "market", "tower", "wood", "yard")
PLAYER_NAMES = ("ada", "bo", "cy", "dot", "eve", "fox")


def some_days(chance, many, odds):
    """A tuple of days of a book of so many, each with the odds."""
    return tuple(day for day in range(many) if chance.random() < odds)


def random_book(seed, days=3, places=2, players=2, scenes=4, most=12):
    """The book of this seed, with so many of each part and days of at most so many hours."""
    chance = random.Random(seed)
    day_rows = []
    for _ in range(days):
        hours = chance.choice((0, most, most, chance.randint(1, most)))
        day_rows.append((hours, chance.randint(0, hours)))
    place_rows = [(name, chance.randint(0, 50), some_days(chance, days, 0.15)) for name in PLACE_NAMES[:places]]
    player_rows = []
    for name in PLAYER_NAMES[:players]:
        pay = chance.randint(0, 90)
        away = some_days(chance, days, 0.15)
        player_rows.append((name, pay, chance.randint(0, pay), chance.randint(1, 3), away))
    scene_rows = []
    for name in SCENE_NAMES[:scenes]:
        cast = tuple(chance.sample(PLAYER_NAMES[:players], chance.randint(0, players)))
        place = chance.choice(PLACE_NAMES[:places])
        scene_rows.append((name, place, chance.randint(1, 4), chance.choice(LIGHTS), cast))
    return book_of(chance.randint(0, 99), chance.randint(0, 3), day_rows, place_rows, player_rows, scene_rows)


def plain_book(lengths, days, hours=9, crew=5, rent=3, shut=()):
    """A book of one place, without players, with so many days and any scenes of these lengths, called a, b and so on."""
    rows = [(name, "attic", length, "any", ()) for name, length in zip("abcdefgh", lengths)]
    return book_of(crew, 1, [(hours, 0)] * days, [("attic", rent, shut)], [], rows)


def random_case(book, seed, odds=0.7):
    """A case of the book, each scene laid with the odds."""
    chance = random.Random(seed)
    return tuple(chance.randrange(len(book[2])) if chance.random() < odds else None for _ in book[5])


def all_cases(book):
    """Every case of the book."""
    return itertools.product((None, *range(len(book[2]))), repeat=len(book[5]))


def hours_of(book, day, names):
    """(name, start, end) of each scene of a row."""
    move, (_, light) = book[1], book[2][day]
    scenes = {scene[0]: scene for scene in book[5]}
    told = []
    for name in names:
        _, place, length, word, _ = scenes[name]
        start = 0
        if told:
            start = told[-1][2] + (move if scenes[told[-1][0]][1] != place else 0)
        if word == "moon" and start < light:
            start = light
        told.append((name, start, start + length))
    return told


def has_slip(book, day, names):
    """Whether a scene of the row ends too late for its light or its day."""
    hours, light = book[2][day]
    words = {scene[0]: scene[3] for scene in book[5]}
    return any(end > (light if words[name] == "sun" else hours) for name, _, end in hours_of(book, day, names))


def fits(book, day, names):
    """Whether the scenes fit on the day."""
    return len(names) <= 5 and any(not has_slip(book, day, row) for row in itertools.permutations(names))


def reasons(book, case):
    """What each rule tells of a case."""
    days = range(len(book[2]))
    shut = {place[0]: place[2] for place in book[3]}
    first = [("shut", row[0], day) for row, day in zip(book[5], case) if day is not None and day in shut[row[1]]]
    calls = {row[0]: calls_in(book, case, row[0]) for row in book[4]}
    second = [("away", row[0], day) for row in book[4] for day in days if day in calls[row[0]] and day in row[4]]
    third = [("full", day) for day in days
             if not fits(book, day, [row[0] for row, own in zip(book[5], case) if own == day])]
    fourth = []
    for name, _, _, run, _ in book[4]:
        for day in days:
            if day >= run and all(day - back in calls[name] for back in range(run + 1)):
                fourth.append(("tired", name, day))
    return [found[0] if found else None for found in (first, second, third, fourth)]


def reason_of(book, case):
    """The first reason by which a case is blocked, or None."""
    return next((reason for reason in reasons(book, case) if reason is not None), None)


def calls_in(book, case, player):
    """The days on which the player is called."""
    return sorted({day for row, day in zip(book[5], case) if day is not None and player in row[4]})


def cost_in(book, case):
    """What a case costs."""
    lain = [(row, day) for row, day in zip(book[5], case) if day is not None]
    total = book[0] * len({day for _, day in lain})
    for name, rent, _ in book[3]:
        total += rent * len({day for row, day in lain if row[1] == name})
    for name, pay, hold, _, _ in book[4]:
        calls = calls_in(book, case, name)
        if calls:
            total += pay * len(calls) + hold * (calls[-1] - calls[0] + 1 - len(calls))
    return total


def bound_in(book, case):
    """The bound of a case."""
    hours = sorted((day[0] for day in book[2]), reverse=True)
    needed = sum(row[2] for row in book[5])
    due = next((many for many in range(len(hours) + 1) if sum(hours[:many]) >= needed), len(hours))
    total = cost_in(book, case) + book[0] * max(0, due - len({day for day in case if day is not None}))
    done = [row for row, day in zip(book[5], case) if day is not None]
    waiting = [row for row, day in zip(book[5], case) if day is None]
    for name, rent, _ in book[3]:
        if any(row[1] == name for row in waiting) and not any(row[1] == name for row in done):
            total += rent
    for name, pay, _, _, _ in book[4]:
        if any(name in row[4] for row in waiting) and not any(name in row[4] for row in done):
            total += pay
    return total


def full_cases(case, open_days):
    """The full cases of a case on open days."""
    return list(itertools.product(*[open_days if day is None else (day,) for day in case]))


def least_cost(book, cases):
    """The least cost of those of the cases that aren't blocked, or None."""
    return min((cost_in(book, case) for case in cases if reason_of(book, case) is None), default=None)


def wrong_in_paper(book, case, open_days, told, paper):
    """What keeps this from being a paper of the case, the open days and the cost or None; None where nothing does."""
    order, ends = paper
    names = [row[0] for row in book[5]]
    if sorted(order) != sorted(name for name, day in zip(names, case) if day is None):
        return "order"
    told_days = [days for days, _ in ends]
    if told_days != sorted(told_days):
        return "sorted"
    rows = list(itertools.product(open_days, repeat=len(order)))
    if any([row[:len(days)] == days for days in told_days].count(True) != 1 for row in rows):
        return "row"
    if not all(any(row[:len(days)] == days for row in rows) for days in told_days):
        return "end"
    for days, reason in ends:
        at = list(case)
        for name, day in zip(order, days):
            at[names.index(name)] = day
        blocked = reason_of(book, at)
        allowed = [("blocked", blocked)] if blocked is not None else []
        if told is not None and bound_in(book, at) >= told:
            allowed.append(("bound", bound_in(book, at)))
        if reason not in allowed:
            return "reason"
    return None


def kinds_in(thing):
    """The kinds of all that is in nested tuples."""
    if isinstance(thing, tuple):
        return {tuple}.union(*[kinds_in(part) for part in thing])
    return {type(thing)}
