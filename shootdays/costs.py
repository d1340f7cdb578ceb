"""What a case costs: the crew, the places and the players."""

from shootdays.books import CREW, NAME, PLACE, PLACES, PLAYERS, SCENES, place_named, player_named
from shootdays.cases import called


def pay_of(book, case, player):
    """(first, last, worked, waited, sum) of a player, or None where he isn't called."""
    days = called(book, case, player)
    if not days:
        return None
    name, pay, hold, run, away = player_named(book, player)
    first, last, worked = days[0], days[-1], len(days)
    waited = last - first + 1 - worked
    return (first, last, worked, waited, pay * worked + hold * waited)


def rent_of(book, case, place):
    """(days, sum) of a place."""
    name, rent, shut = place_named(book, place)
    days = len({day for scene, day in zip(book[SCENES], case) if day is not None and scene[PLACE] == place})
    return (days, days * rent)


def days_shot(case):
    """On how many days any scene is laid."""
    return len({day for day in case if day is not None})


def place_line(book, case, place):
    """The row of a place in the bill."""
    return ("place", place) + rent_of(book, case, place)


def player_line(book, case, player):
    """The row of a player in the bill."""
    paid = pay_of(book, case, player)
    if paid is None:
        return ("player", player, 0, 0, 0)
    first, last, worked, waited, total = paid
    return ("player", player, worked, waited, total)


def bill(book, case):
    """A list of the rows of the bill: the crew's, those of the places, those of the players."""
    days = days_shot(case)
    lines = [("crew", days, days * book[CREW])]
    lines.extend([place_line(book, case, place[NAME]) for place in book[PLACES]])
    lines.extend([player_line(book, case, player[NAME]) for player in book[PLAYERS]])
    return lines


def cost(book, case):
    """The sum of the bill's sums."""
    return sum(line[-1] for line in bill(book, case))
