"""Rows of a book's text, read one by one. A book that is being read has the form of a book, but may have no day."""

from shootdays.books import DAYS, LIGHT_WORDS, LONGEST_RUN, PLACES, PLAYERS, SCENES
from shootdays.books import MOST_DAYS, MOST_PLACES, MOST_PLAYERS, MOST_SCENES, number_at
from shootdays.errors import NoName, NoText, Twice
from shootdays.words import is_name, number_in

MONEY_FIGURES = 60
HOURS_FIGURES = 12
DAY_FIGURES = 1
RUN_FIGURES = 1


def read_number(word, most, at):
    """The number that this word writes by at most so many figures, or NoText."""
    number = number_in(word, most)
    if number is None:
        raise NoText(at)
    return number


def read_name(word, at):
    """This word, or NoText where it is no name."""
    if not is_name(word):
        raise NoText(at)
    return word


def read_days(words, mark, at):
    """The days behind the word mark, rising; none where no words stand there at all."""
    if not words:
        return ()
    if words[0] != mark or len(words) == 1:
        raise NoText(at)
    days = [read_number(word, DAY_FIGURES, at) for word in words[1:]]
    if days != sorted(set(days)):
        raise NoText(at)
    return tuple(days)


def need_words(words, least, most, at):
    """NoText where a row has fewer or more words; most is None where it may have any number."""
    if len(words) < least or (most is not None and len(words) > most):
        raise NoText(at)


def need_room(part, most, at):
    """NoText where this part of the book has as many rows as it may have."""
    if len(part) >= most:
        raise NoText(at)


def need_new(part, name, at):
    """Twice where a row of this part has the name already."""
    if number_at(part, name) is not None:
        raise Twice(at)


def need_days(book, days, at):
    """NoName where one of these days isn't told yet."""
    if any(day >= len(book[DAYS]) for day in days):
        raise NoName(at)


def need_names(part, names, at):
    """NoName where one of these names has no row in this part yet."""
    if any(number_at(part, name) is None for name in names):
        raise NoName(at)


def put_behind(book, part, row):
    """The book with a row more behind those of a part."""
    return book[:part] + (book[part] + (row,),) + book[part + 1:]


def begun(row, at):
    """The book, without a day yet, that a row of the crew and the move begins."""
    words = row.split(" ")
    need_words(words, 4, 4, at)
    if words[0] != "crew" or words[2] != "move":
        raise NoText(at)
    crew = read_number(words[1], MONEY_FIGURES, at)
    move = read_number(words[3], HOURS_FIGURES, at)
    return (crew, move, (), (), (), ())


def with_day(book, words, at):
    """The book with the day of these words."""
    need_words(words, 3, 3, at)
    need_room(book[DAYS], MOST_DAYS, at)
    hours = read_number(words[1], HOURS_FIGURES, at)
    light = read_number(words[2], HOURS_FIGURES, at)
    if light > hours:
        raise NoText(at)
    return put_behind(book, DAYS, (hours, light))


def with_place(book, words, at):
    """The book with the place of these words."""
    need_words(words, 3, None, at)
    need_room(book[PLACES], MOST_PLACES, at)
    name = read_name(words[1], at)
    rent = read_number(words[2], MONEY_FIGURES, at)
    shut = read_days(words[3:], "shut", at)
    need_new(book[PLACES], name, at)
    need_days(book, shut, at)
    return put_behind(book, PLACES, (name, rent, shut))


def with_player(book, words, at):
    """The book with the player of these words."""
    need_words(words, 5, None, at)
    need_room(book[PLAYERS], MOST_PLAYERS, at)
    name = read_name(words[1], at)
    pay = read_number(words[2], MONEY_FIGURES, at)
    hold = read_number(words[3], MONEY_FIGURES, at)
    run = read_number(words[4], RUN_FIGURES, at)
    if hold > pay or not 1 <= run <= LONGEST_RUN:
        raise NoText(at)
    away = read_days(words[5:], "away", at)
    need_new(book[PLAYERS], name, at)
    need_days(book, away, at)
    return put_behind(book, PLAYERS, (name, pay, hold, run, away))


def read_scene(words, at):
    """The scene of these words, whether the book has what it names or not."""
    need_words(words, 5, None, at)
    name = read_name(words[1], at)
    place = read_name(words[2], at)
    length = read_number(words[3], HOURS_FIGURES, at)
    if length < 1 or words[4] not in LIGHT_WORDS:
        raise NoText(at)
    cast = tuple([read_name(word, at) for word in words[5:]])
    return (name, place, length, words[4], cast)


def with_scene(book, words, at):
    """The book with the scene of these words."""
    need_room(book[SCENES], MOST_SCENES, at)
    scene = read_scene(words, at)
    name, place, length, word, cast = scene
    need_new(book[SCENES], name, at)
    if len(set(cast)) < len(cast):
        raise Twice(at)
    need_names(book[PLACES], (place,), at)
    need_names(book[PLAYERS], cast, at)
    return put_behind(book, SCENES, scene)


READERS = {"day": with_day, "place": with_place, "player": with_player, "scene": with_scene}


def with_row(book, row, at):
    """The book with a row more of its text; NoText, Twice or NoName, with the number at, where it can't be read."""
    words = row.split(" ")
    if words[0] not in READERS:
        raise NoText(at)
    reader = READERS[words[0]]
    return reader(book, words, at)
