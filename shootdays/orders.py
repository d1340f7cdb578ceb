"""In which orders scenes can be shot on a day."""

from shootdays.books import LENGTH, NAME, scene_named
from shootdays.times import slip_of, start_behind

MOST_ON_A_DAY = 5


def end_behind(book, day, scene, ahead, end):
    """The end of a scene behind one that ends then (or None, and 0), or None where it slips there."""
    own_end = start_behind(book, day, scene, ahead, end) + scene[LENGTH]
    if slip_of(book, day, scene, own_end) is not None:
        return None
    return own_end


def least_end(book, day, scenes, ends, some, last):
    """The least end of the scene numbered last behind the others of some; ends has those of the lesser numbers."""
    if not some >> last & 1:
        return None
    rest = some - (1 << last)
    if rest == 0:
        return end_behind(book, day, scenes[last], None, 0)
    # An earlier end ahead never makes a later one behind, so the least ends ahead are all that count.
    told = [
        end_behind(book, day, scenes[last], scenes[ahead], end)
        for ahead, end in enumerate(ends[rest])
        if end is not None
    ]
    return min([end for end in told if end is not None], default=None)


def earliest(book, day, names):
    """For each number of some of the scenes a list with the least end of each scene as their last, or None."""
    scenes = [scene_named(book, name) for name in names]
    ends = []
    for some in range(1 << len(scenes)):
        ends.append([least_end(book, day, scenes, ends, some, last) for last in range(len(scenes))])
    return ends


def row_behind(book, day, scenes, ahead, end):
    """A row of all these scenes without a slip, behind a scene that ends then (or None, and 0); None where none is."""
    if not scenes:
        return ()
    for at, scene in enumerate(scenes):
        own_end = end_behind(book, day, scene, ahead, end)
        if own_end is not None:
            others = row_behind(book, day, scenes[:at] + scenes[at + 1:], scene, own_end)
            if others is not None:
                return (scene[NAME],) + others
    return None


def ordered(book, day, names):
    """A row of these scenes that has no slip, or None where they don't fit on the day."""
    if len(names) > MOST_ON_A_DAY:
        return None
    return row_behind(book, day, [scene_named(book, name) for name in names], None, 0)
