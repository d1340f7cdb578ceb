"""The first fit: a case found fast, that may not be the cheapest."""

from shootdays.books import all_days
from shootdays.cases import laid, no_case
from shootdays.rules import blocked


def laid_first(book, case, scene):
    """The case with the scene laid on the first day on which the case isn't blocked then, or None."""
    for day in all_days(book):
        tried = laid(case, scene, day)
        if blocked(book, tried) is None:
            return tried
    return None


def first_fit(book):
    """The case in which each scene, in the book's order, is laid on the first day that it can be; None without one."""
    case = no_case(book)
    for scene in range(len(case)):
        case = laid_first(book, case, scene)
        if case is None:
            return None
    return case
