"""The hours of scenes that are shot on a day, one behind the other, and where they slip."""

from shootdays.books import DAYS, LENGTH, MOVE, NAME, PLACE, WORD, scene_named


def start_behind(book, day, scene, ahead, end):
    """When a scene starts behind one that ends then; ahead is None, and end 0, where it is the day's first."""
    hours, light = book[DAYS][day]
    start = end
    if ahead is not None and ahead[PLACE] != scene[PLACE]:
        start += book[MOVE]
    if scene[WORD] == "moon":
        start = max(start, light)
    return start


def slip_of(book, day, scene, end):
    """The slip of one scene that ends then, or None."""
    hours, light = book[DAYS][day]
    if scene[WORD] == "sun" and end > light:
        return ("late", scene[NAME])
    if end > hours:
        return ("long", scene[NAME])
    return None


def timed(book, day, names):
    """A tuple of triples (name, start, end) of the scenes of a row."""
    rows = []
    ahead = None
    end = 0
    for name in names:
        scene = scene_named(book, name)
        start = start_behind(book, day, scene, ahead, end)
        end = start + scene[LENGTH]
        rows.append((name, start, end))
        ahead = scene
    return tuple(rows)


def slip(book, day, names):
    """The slip of a row: that of its first scene that has one, or None."""
    for name, start, end in timed(book, day, names):
        found = slip_of(book, day, scene_named(book, name), end)
        if found is not None:
            return found
    return None
