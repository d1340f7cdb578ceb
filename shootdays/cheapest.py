"""The cheapest plan of a book, or between what it costs."""

from shootdays.books import all_days
from shootdays.bounds import bound
from shootdays.cases import no_case
from shootdays.costs import cost
from shootdays.errors import TooWide
from shootdays.first import first_fit
from shootdays.plans import plan_of
from shootdays.search import best


def between(book):
    """("between", low, high): no plan costs less than low, and one costs high; high is None where none was found."""
    low = bound(book, no_case(book))
    case = first_fit(book)
    if case is None:
        return ("between", low, None)
    return ("between", low, cost(book, case))


def cheapest(book):
    """("cheapest", cost, plan, paper), ("none", paper), or ("between", low, high) where there are too many cases."""
    try:
        told = best(book, no_case(book), all_days(book))
    except TooWide:
        return between(book)
    if told[0] == "none":
        return told
    word, least, full, paper = told
    return (word, least, plan_of(book, full), paper)
