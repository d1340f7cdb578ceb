"""What a desk is asked: each question, of a book, a case and the values of its words, is answered with a text."""

from shootdays.books import NAME, SCENES, all_days
from shootdays.bounds import bound
from shootdays.cases import not_laid, on_day
from shootdays.costs import cost, pay_of
from shootdays.orders import ordered
from shootdays.rules import blocked
from shootdays.search import best
from shootdays.sheets import day_sheet
from shootdays.texts import show_book


def listed(values):
    """These values with a blank between each two."""
    return " ".join(str(value) for value in values)


def tell_show(book, case, values):
    """The book's text."""
    return show_book(book)


def tell_left(book, case, values):
    """The scenes that aren't laid, or none."""
    scenes = not_laid(case)
    if not scenes:
        return "none"
    return listed([book[SCENES][scene][NAME] for scene in scenes])


def tell_cost(book, case, values):
    """The cost of the case."""
    return str(cost(book, case))


def tell_bound(book, case, values):
    """The bound of the case."""
    return str(bound(book, case))


def tell_blocked(book, case, values):
    """The words of the reason by which the case is blocked, or no."""
    reason = blocked(book, case)
    if reason is None:
        return "no"
    return listed(reason)


def tell_pay(book, case, values):
    """The five numbers of a player's pay, or none."""
    paid = pay_of(book, case, values[0])
    if paid is None:
        return "none"
    return listed(paid)


def tell_order(book, case, values):
    """A row of the day's scenes, none, or full."""
    day = values[0]
    names = on_day(book, case, day)
    if not names:
        return "none"
    row = ordered(book, day, names)
    if row is None:
        return "full"
    return listed(row)


def tell_sheet(book, case, values):
    """The sheet of the day by a row of its scenes, or full."""
    day = values[0]
    row = ordered(book, day, on_day(book, case, day))
    if row is None:
        return "full"
    return day_sheet(book, day, row)


def tell_best(book, case, values):
    """The cost and the days of a best full case on all days, or none; or TooWide."""
    told = best(book, case, all_days(book))
    if told[0] == "none":
        return "none"
    word, least, full, paper = told
    return listed((least,) + full)


QUESTIONS = {
    "show": tell_show,
    "left": tell_left,
    "cost": tell_cost,
    "bound": tell_bound,
    "blocked": tell_blocked,
    "pay": tell_pay,
    "order": tell_order,
    "sheet": tell_sheet,
    "best": tell_best,
}


def is_question(word):
    """Whether a row that begins with this word is a question."""
    return word in QUESTIONS


def answer_to(word, book, case, values):
    """The answer to the question of this word."""
    question = QUESTIONS[word]
    return question(book, case, values)
