"""Whether a paper shows what it should: looked at by itself, however it was made."""

from shootdays.books import NAME, SCENES, scene_at
from shootdays.bounds import bound
from shootdays.cases import laid, not_laid
from shootdays.rules import blocked


def is_order(book, case, order):
    """Whether these are the names of the scenes that aren't laid, each once."""
    return sorted(order) == sorted([book[SCENES][scene][NAME] for scene in not_laid(case)])


def ends_from(days, most, open_days, ends, at):
    """The number behind the ends, from at on, that are ends of the rows that begin with these days; None where amiss.

    Rows are gone through as they are sorted, so the ends must come one by one, and each at its turn.
    """
    if at == len(ends):
        return None
    if ends[at][0] == days:
        return at + 1
    if len(days) == most:
        return None
    for day in open_days:
        at = ends_from(days + (day,), most, open_days, ends, at)
        if at is None:
            return None
    return at


def are_ends(most, open_days, ends):
    """Whether each row of so many open days begins with the days of just one end, sorted, and there is no other end."""
    if most > 0 and not open_days:
        return not ends
    return ends_from((), most, open_days, ends, 0) == len(ends)


def case_at(book, case, order, days):
    """The case with the first scenes of the order laid on these days."""
    for name, day in zip(order, days):
        case = laid(case, scene_at(book, name), day)
    return case


def is_reason(book, case, told, reason):
    """Whether this is why no full case of the case is allowed, or none below the cost told (never where it is None)."""
    if reason[:1] == ("bound",):
        number = bound(book, case)
        return told is not None and number >= told and reason == ("bound", number)
    why = blocked(book, case)
    return why is not None and reason == ("blocked", why)


def is_paper(book, case, open_days, told, paper):
    """Whether this is a paper of the case, the open days and the cost told, or None."""
    order, ends = paper
    if not is_order(book, case, order) or not are_ends(len(order), open_days, ends):
        return False
    return all(is_reason(book, case_at(book, case, order, days), told, reason) for days, reason in ends)
