"""A book and a case with the days the other way round."""

from shootdays.books import DAYS


def turned_day(day, many):
    """The number that a day of so many has when they stand the other way round; None stays None."""
    if day is None:
        return None
    return many - 1 - day


def turned_days(days, many):
    """Rising days, turned about and rising again."""
    return tuple(turned_day(day, many) for day in days[::-1])


def turned_book(book):
    """The book turned about."""
    crew, move, days, places, players, scenes = book
    many = len(days)
    own_places = tuple((name, rent, turned_days(shut, many)) for name, rent, shut in places)
    own_players = tuple(
        (name, pay, hold, run, turned_days(away, many)) for name, pay, hold, run, away in players
    )
    return (crew, move, days[::-1], own_places, own_players, scenes)


def turned_case(book, case):
    """The case turned about."""
    return tuple(turned_day(day, len(book[DAYS])) for day in case)
