"""Cases: tuples with, for each scene of the book, the day on which it is laid, or None."""

from shootdays.books import CAST, NAME, SCENES


def no_case(book):
    """The empty case."""
    return (None,) * len(book[SCENES])


def laid(case, scene, day):
    """The case with the scene of this number laid on the day."""
    return case[:scene] + (day,) + case[scene + 1:]


def not_laid(case):
    """The numbers of the scenes that aren't laid, rising."""
    return tuple(scene for scene, day in enumerate(case) if day is None)


def on_day(book, case, day):
    """The names of the scenes that are laid on the day, in the book's order."""
    return tuple(scene[NAME] for scene, own_day in zip(book[SCENES], case) if own_day == day)


def called(book, case, player):
    """The days on which some scene with the player is laid, rising."""
    days = [day for scene, day in zip(book[SCENES], case) if day is not None and player in scene[CAST]]
    return tuple(sorted(set(days)))
