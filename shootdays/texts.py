"""Books as texts: rows of words, one line end between each two."""

from shootdays.books import DAYS
from shootdays.errors import NoText
from shootdays.rows import begun, with_row


def marked_days(mark, days):
    """The words of these days behind the word mark; none where there are no days."""
    if not days:
        return []
    return [mark] + [str(day) for day in days]


def day_row(day):
    """The row of a day."""
    hours, light = day
    return f"day {hours} {light}"


def place_row(place):
    """The row of a place."""
    name, rent, shut = place
    return " ".join(["place", name, str(rent)] + marked_days("shut", shut))


def player_row(player):
    """The row of a player."""
    name, pay, hold, run, away = player
    return " ".join(["player", name, str(pay), str(hold), str(run)] + marked_days("away", away))


def scene_row(scene):
    """The row of a scene."""
    name, place, length, word, cast = scene
    return " ".join(["scene", name, place, str(length), word] + list(cast))


def show_book(book):
    """The text of a book."""
    crew, move, days, places, players, scenes = book
    rows = [f"crew {crew} move {move}"]
    rows.extend([day_row(day) for day in days])
    rows.extend([place_row(place) for place in places])
    rows.extend([player_row(player) for player in players])
    rows.extend([scene_row(scene) for scene in scenes])
    return "\n".join(rows)


def read_book(text):
    """The book of a text; NoText, Twice or NoName, with the number of the first wrong row, where it is none."""
    if not isinstance(text, str):
        raise NoText(0)
    # Not splitlines, as that takes other signs for line ends, too, and drops a last empty row.
    rows = text.split("\n")
    book = begun(rows[0], 0)
    for at in range(1, len(rows)):
        book = with_row(book, rows[at], at)
    if not book[DAYS]:
        raise NoText(len(rows))
    return book
