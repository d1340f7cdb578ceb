"""What no full case that goes on from a case can cost less than."""

from shootdays.books import CAST, CREW, DAYS, LENGTH, PLACE, PLACES, PLAYERS, SCENES, place_named, player_named
from shootdays.costs import cost, days_shot


def days_due(book):
    """The least number of days whose hours, the greatest first, come to the lengths of all scenes."""
    needed = sum(scene[LENGTH] for scene in book[SCENES])
    many = 0
    for day in sorted(book[DAYS], reverse=True):
        if needed <= 0:
            break
        hours, light = day
        needed -= hours
        many += 1
    # Where not even all days come to the lengths, all have been counted, as they should be.
    return many


def places_of_scenes(scenes):
    """The names of the places of these scenes."""
    return [scene[PLACE] for scene in scenes]


def players_of_scenes(scenes):
    """The names of the players of these scenes."""
    return [player for scene in scenes for player in scene[CAST]]


def only_in_first(rows, first, second):
    """The names of these rows, in their order, that are in the first list and not in the second."""
    return tuple(row[0] for row in rows if row[0] in first and row[0] not in second)


def missing(book, case):
    """The places, and the players, of scenes that aren't laid and of none that is."""
    waiting = [scene for scene, day in zip(book[SCENES], case) if day is None]
    done = [scene for scene, day in zip(book[SCENES], case) if day is not None]
    places = only_in_first(book[PLACES], places_of_scenes(waiting), places_of_scenes(done))
    players = only_in_first(book[PLAYERS], players_of_scenes(waiting), players_of_scenes(done))
    return (places, players)


def rent_for_a_day(book, place):
    """The rent of a place for one day."""
    name, rent, shut = place_named(book, place)
    return rent


def pay_for_a_day(book, player):
    """The pay of a player for one day on which he is called."""
    name, pay, hold, run, away = player_named(book, player)
    return pay


def bound(book, case):
    """The cost of the case and what must come at least: crew for days still due, missing places and players."""
    places, players = missing(book, case)
    days = max(0, days_due(book) - days_shot(case))
    rents = sum(rent_for_a_day(book, place) for place in places)
    pays = sum(pay_for_a_day(book, player) for player in players)
    return cost(book, case) + days * book[CREW] + rents + pays
