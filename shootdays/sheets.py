"""Sheets: a plan's days as texts for those who shoot, and read back; and a player's calls."""

from shootdays.books import CAST, DAYS, PLACE, all_days, scene_at, scene_named
from shootdays.errors import NoSheet
from shootdays.times import timed

# Where the scene's name stands in its row, behind its start, its end and its place.
SCENE_WORD = 3


def day_line(book, day):
    """The row with which a day's sheet begins."""
    hours, light = book[DAYS][day]
    return f"day {day} {hours} {light}"


def scene_lines(book, day, names):
    """The rows of the scenes that are shot on the day, in this order."""
    lines = []
    for name, start, end in timed(book, day, names):
        scene = scene_named(book, name)
        lines.append(" ".join([str(start), str(end), scene[PLACE], name] + list(scene[CAST])))
    return lines


def day_sheet(book, day, names):
    """The sheet of a day on which these scenes are shot, in this order."""
    return "\n".join([day_line(book, day)] + scene_lines(book, day, names))


def sheet(book, plan, day):
    """The sheet of a day of a plan."""
    return day_sheet(book, day, plan[day])


def sheets(book, plan):
    """The sheets of all days of a plan."""
    return "\n".join([sheet(book, plan, day) for day in all_days(book)])


def named_in(row):
    """The word of a scene's row that should be its name, or None."""
    words = row.split(" ")
    if len(words) <= SCENE_WORD:
        return None
    return words[SCENE_WORD]


def with_scene_line(book, plan, row):
    """The first days of a plan with the scene of this row as the last one of the last of them, or None."""
    name = named_in(row)
    if not plan or scene_at(book, name) is None or any(name in shot for shot in plan):
        return None
    names = plan[-1] + (name,)
    # A row tells one scene alone, and its hours hang on those ahead: made anew, it must be the very same.
    if row != scene_lines(book, len(plan) - 1, names)[-1]:
        return None
    return plan[:-1] + (names,)


def with_line(book, plan, row):
    """The first days of a plan with what this row of its sheets tells besides, or None where none goes on so."""
    if len(plan) < len(book[DAYS]) and row == day_line(book, len(plan)):
        return plan + ((),)
    return with_scene_line(book, plan, row)


def read_sheets(book, text):
    """The plan of which these are the sheets; NoSheet with the number of the first wrong row where they are none."""
    if not isinstance(text, str):
        raise NoSheet(0)
    rows = text.split("\n")
    plan = ()
    for at, row in enumerate(rows):
        plan = with_line(book, plan, row)
        if plan is None:
            raise NoSheet(at)
    if len(plan) < len(book[DAYS]):
        raise NoSheet(len(rows))
    return plan


def hours_with(book, day, names, player):
    """A list of pairs (start, end) of the scenes of a day's row in which the player is."""
    return [(start, end) for name, start, end in timed(book, day, names) if player in scene_named(book, name)[CAST]]


def calls_of(book, plan, player):
    """A list of triples (day, start, end): from the player's first scene of a day to the end of his last one."""
    calls = []
    for day, names in enumerate(plan):
        hours = hours_with(book, day, names, player)
        if hours:
            calls.append((day, hours[0][0], hours[-1][1]))
    return calls
