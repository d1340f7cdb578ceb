"""Plans: tuples with, for each day, a tuple of the names of the scenes shot there, in that order."""

from shootdays.books import DAYS, NAME, SCENES, scene_at
from shootdays.cases import laid, no_case, on_day
from shootdays.orders import MOST_ON_A_DAY, ordered
from shootdays.rules import Away, Shut, Tired
from shootdays.times import slip


def case_of(book, plan):
    """The case in which the scenes lie as in the plan."""
    case = no_case(book)
    for day, names in enumerate(plan):
        for name in names:
            case = laid(case, scene_at(book, name), day)
    return case


def plan_of(book, case):
    """A plan of the case whose rows have no slip, or None where some day's scenes don't fit."""
    rows = [ordered(book, day, on_day(book, case, day)) for day in range(len(book[DAYS]))]
    if any(row is None for row in rows):
        return None
    return tuple(rows)


def texts_in(plan):
    """The texts of a plan, day by day and there as they stand."""
    return [text for names in plan for text in names]


def strange_fault(book, texts):
    """The fault of the first text that is no scene's name, or None."""
    for text in texts:
        if scene_at(book, text) is None:
            return ("strange", text)
    return None


def twice_fault(texts):
    """The fault of the first text that came ahead, or None."""
    seen = set()
    for text in texts:
        if text in seen:
            return ("twice", text)
        seen.add(text)
    return None


def lost_fault(book, texts):
    """The fault of the first scene of the book that is nowhere, or None."""
    for scene in book[SCENES]:
        if scene[NAME] not in texts:
            return ("lost", scene[NAME])
    return None


def form_fault(book, plan, whole):
    """The fault of a plan that has no case, or not a whole one where that is asked for; None where it has."""
    if len(plan) != len(book[DAYS]):
        return ("days", len(plan))
    texts = texts_in(plan)
    fault = strange_fault(book, texts)
    if fault is None:
        fault = twice_fault(texts)
    if fault is None and whole:
        fault = lost_fault(book, texts)
    return fault


def day_fault(book, day, names):
    """The fault of a day's row, or None."""
    if len(names) > MOST_ON_A_DAY:
        return ("full", day)
    found = slip(book, day, names)
    if found is None:
        return None
    return found + (day,)


def days_fault(book, plan):
    """The fault of the first day whose row has one, or None."""
    for day, names in enumerate(plan):
        fault = day_fault(book, day, names)
        if fault is not None:
            return fault
    return None


def fault_of(book, plan, whole=True):
    """The first fault of a plan, or None; whole is whether each scene of the book must be in it."""
    fault = form_fault(book, plan, whole)
    if fault is not None:
        return fault
    case = case_of(book, plan)
    fault = Shut().broken(book, case)
    if fault is None:
        fault = Away().broken(book, case)
    if fault is None:
        fault = days_fault(book, plan)
    if fault is None:
        fault = Tired().broken(book, case)
    return fault
