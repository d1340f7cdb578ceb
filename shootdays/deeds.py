"""What a desk does: each deed, of a book, a case and the values of its words, tells the book and the case behind it."""

from shootdays.books import SCENES, scene_at
from shootdays.cases import laid
from shootdays.lost import lost_book
from shootdays.rows import with_row


def lay_scene(book, case, values):
    """The scene is laid on the day."""
    name, day = values
    return (book, laid(case, scene_at(book, name), day))


def take_scene(book, case, values):
    """The scene is laid no more."""
    return (book, laid(case, scene_at(book, values[0]), None))


def lose_day(book, case, values):
    """The day is lost, and what was laid there is laid no more."""
    day = values[0]
    return (lost_book(book, day), tuple(None if own == day else own for own in case))


DEEDS = {"lay": lay_scene, "take": take_scene, "lose": lose_day}


def is_deed(word):
    """Whether a row that begins with this word is a deed other than a book's row."""
    return word in DEEDS


def behind_deed(word, book, case, values):
    """The book and the case behind the deed of this word."""
    deed = DEEDS[word]
    return deed(book, case, values)


def put_row(book, case, row):
    """The book with a row more of its text, in which a new scene isn't laid; NoText, Twice or NoName, row 0."""
    grown = with_row(book, row, 0)
    return (grown, case + (None,) * (len(grown[SCENES]) - len(case)))
