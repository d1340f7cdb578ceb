"""The best full case of a case on open days, with the paper by which no other one is better."""

from shootdays.books import NAME, SCENES
from shootdays.bounds import bound
from shootdays.cases import laid, not_laid
from shootdays.errors import TooWide
from shootdays.rules import blocked

WIDEST = 1000


def width(case, open_days):
    """How many full cases the case has on these days."""
    many = 1
    for scene in not_laid(case):
        many *= len(open_days)
    return many


def need_narrow(case, open_days):
    """TooWide where the full cases are too many to look through."""
    many = width(case, open_days)
    if many > WIDEST:
        raise TooWide(many)


def looked_through(book, case, open_days, days, found):
    """What is found in the full cases of a case, and the ends for them: (found, ends).

    days are those on which scenes were laid on the way to this case. found, handed in and told, is None or a pair of
    the least cost so far and its full case.
    """
    number = bound(book, case)
    # What is found later costs no more, so this bound isn't below the last cost, either.
    if found is not None and number >= found[0]:
        return (found, [(days, ("bound", number))])
    reason = blocked(book, case)
    if reason is not None:
        return (found, [(days, ("blocked", reason))])
    scenes = not_laid(case)
    if not scenes:
        # All are laid and nothing blocks them, so that the bound is the cost.
        return ((number, case), [(days, ("bound", number))])
    ends = []
    for day in open_days:
        found, more = looked_through(book, laid(case, scenes[0], day), open_days, days + (day,), found)
        ends.extend(more)
    return (found, ends)


def best(book, case, open_days):
    """("cheapest", cost, full, paper) of the full cases of a case on these days, or ("none", paper); or TooWide."""
    need_narrow(case, open_days)
    order = tuple(book[SCENES][scene][NAME] for scene in not_laid(case))
    if width(case, open_days) == 0:
        return ("none", (order, ()))
    found, ends = looked_through(book, case, open_days, (), None)
    paper = (order, tuple(ends))
    if found is None:
        return ("none", paper)
    told, full = found
    return ("cheapest", told, full, paper)
