"""Books: tuples (crew, move, days, places, players, scenes), looked through once, when they are made."""

from shootdays.errors import NoBook
from shootdays.measures import is_hours, is_money, is_whole
from shootdays.words import is_name

MOST_DAYS = 8
MOST_PLACES = 6
MOST_PLAYERS = 6
MOST_SCENES = 8
LONGEST_RUN = 8
LIGHT_WORDS = ("sun", "moon", "any")

# Where the parts of a book stand.
CREW = 0
MOVE = 1
DAYS = 2
PLACES = 3
PLAYERS = 4
SCENES = 5

# Where the parts of a scene stand.
NAME = 0
PLACE = 1
LENGTH = 2
WORD = 3
CAST = 4


def is_row(value, size):
    """Whether this is a tuple of so many things."""
    return isinstance(value, tuple) and len(value) == size


def is_day_row(value):
    """Whether this is a pair (hours, light), light at most hours."""
    if not is_row(value, 2):
        return False
    hours, light = value
    return is_hours(hours) and is_hours(light) and light <= hours


def are_days(value, many):
    """Whether this is a tuple of days of a book of so many, rising, each once."""
    if not isinstance(value, tuple):
        return False
    least = 0
    for day in value:
        if not is_whole(day) or not least <= day < many:
            return False
        least = day + 1
    return True


def is_place_row(value, many):
    """Whether this is a triple (name, rent, shut) of a book of so many days."""
    if not is_row(value, 3):
        return False
    name, rent, shut = value
    return is_name(name) and is_money(rent) and are_days(shut, many)


def is_run(value):
    """Whether this is a number of days in a row for which a player may be called."""
    return is_whole(value) and 1 <= value <= LONGEST_RUN


def is_player_row(value, many):
    """Whether this is a tuple (name, pay, hold, run, away) of a book of so many days."""
    if not is_row(value, 5):
        return False
    name, pay, hold, run, away = value
    if not is_name(name) or not is_run(run) or not are_days(away, many):
        return False
    return is_money(pay) and is_money(hold) and hold <= pay


def number_at(rows, name):
    """The number of the row that begins with the name, or None."""
    for at, row in enumerate(rows):
        if row[0] == name:
            return at
    return None


def is_cast(value, players):
    """Whether this is a tuple of names of these players, each once at most."""
    if not isinstance(value, tuple):
        return False
    # Asked ahead of the set, as what is no name may not go into one.
    if not all(number_at(players, name) is not None for name in value):
        return False
    return len(set(value)) == len(value)


def is_scene_row(value, places, players):
    """Whether this is a tuple (name, place, length, word, cast) with these places and players."""
    if not is_row(value, 5):
        return False
    name, place, length, word, cast = value
    if not is_name(name) or number_at(places, place) is None:
        return False
    return is_hours(length) and length >= 1 and word in LIGHT_WORDS and is_cast(cast, players)


def rows_of(part, most, what):
    """A part that was handed in, as a tuple, so that nothing done to it later is seen."""
    if not isinstance(part, (list, tuple)):
        raise NoBook(f"the {what} are no list and no tuple")
    if len(part) > most:
        raise NoBook(f"there are more than {most} {what}")
    return tuple(part)


def unlike(rows, what):
    """These rows, or NoBook where two of them begin with one name."""
    names = [row[0] for row in rows]
    if len(set(names)) < len(names):
        raise NoBook(f"two {what} have one name")
    return rows


def days_of(part):
    """The days that were handed in, or NoBook."""
    days = rows_of(part, MOST_DAYS, "days")
    if not days or not all(is_day_row(row) for row in days):
        raise NoBook("the days are not one to eight pairs of hours and light")
    return days


def places_of(part, many):
    """The places that were handed in, of a book of so many days, or NoBook."""
    places = rows_of(part, MOST_PLACES, "places")
    if not all(is_place_row(row, many) for row in places):
        raise NoBook("a place is not of a name, a rent and the days on which it is shut")
    return unlike(places, "places")


def players_of(part, many):
    """The players that were handed in, of a book of so many days, or NoBook."""
    players = rows_of(part, MOST_PLAYERS, "players")
    if not all(is_player_row(row, many) for row in players):
        raise NoBook("a player is not of a name, a pay, a hold, a run and the days on which he is away")
    return unlike(players, "players")


def scenes_of(part, places, players):
    """The scenes that were handed in, with these places and players, or NoBook."""
    scenes = rows_of(part, MOST_SCENES, "scenes")
    if not all(is_scene_row(row, places, players) for row in scenes):
        raise NoBook("a scene is not of a name, a place, a length, a word and a cast")
    return unlike(scenes, "scenes")


def book_of(crew, move, days, places, players, scenes):
    """The book of these parts, or NoBook."""
    if not is_money(crew):
        raise NoBook("the crew is no money")
    if not is_hours(move):
        raise NoBook("the move is no hours")
    own_days = days_of(days)
    own_places = places_of(places, len(own_days))
    own_players = players_of(players, len(own_days))
    own_scenes = scenes_of(scenes, own_places, own_players)
    return (crew, move, own_days, own_places, own_players, own_scenes)


def all_days(book):
    """The days of the book, by their numbers."""
    return tuple(range(len(book[DAYS])))


def place_at(book, name):
    """The number of the place of this name, or None."""
    return number_at(book[PLACES], name)


def player_at(book, name):
    """The number of the player of this name, or None."""
    return number_at(book[PLAYERS], name)


def scene_at(book, name):
    """The number of the scene of this name, or None."""
    return number_at(book[SCENES], name)


def place_named(book, name):
    """The place of this name, which the book has."""
    return book[PLACES][place_at(book, name)]


def player_named(book, name):
    """The player of this name, whom the book has."""
    return book[PLAYERS][player_at(book, name)]


def scene_named(book, name):
    """The scene of this name, which the book has."""
    return book[SCENES][scene_at(book, name)]
