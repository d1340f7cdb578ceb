"""A day lost: the book without its hours, and plans mended by laying what was on some days anew."""

from shootdays.books import DAYS, all_days, are_days
from shootdays.errors import NoDay, NoPlan
from shootdays.plans import case_of, fault_of, plan_of
from shootdays.search import best, need_narrow


def lost_book(book, day):
    """The book whose day has no hours and no light."""
    days = book[DAYS]
    return book[:DAYS] + (days[:day] + ((0, 0),) + days[day + 1:],) + book[DAYS + 1:]


def need_lost_day(book, day):
    """NoDay where the book has no such day."""
    if not 0 <= day < len(book[DAYS]):
        raise NoDay("the lost day is no day of the book")


def need_plan(book, plan):
    """NoPlan where the plan has a fault by the book."""
    fault = fault_of(book, plan)
    if fault is not None:
        raise NoPlan(fault)


def kept_case(book, plan, day, changed):
    """The case of a plan without the scenes of the lost day and the changed days."""
    return tuple(None if own == day or own in changed else own for own in case_of(book, plan))


def mended_plan(book, plan, day, changed, full):
    """The plan in which the lost day and the changed days are as in the full case, and all others as they were."""
    anew = plan_of(lost_book(book, day), full)
    return tuple(anew[own] if own == day or own in changed else names for own, names in enumerate(plan))


def mend(book, plan, day, changed):
    """What mended tells, of a plan without a fault and of days that are as they should be."""
    told = best(lost_book(book, day), kept_case(book, plan, day, changed), changed)
    if told[0] == "none":
        return told
    word, least, full, paper = told
    return ("mended", least, mended_plan(book, plan, day, changed, full), paper)


def mended(book, plan, day, changed):
    """("mended", cost, plan, paper) of a plan whose day is lost, or ("none", paper); NoDay, NoPlan or TooWide."""
    need_lost_day(book, day)
    if not are_days(changed, len(book[DAYS])) or day in changed:
        raise NoDay("the changed days are not other days of the book, rising, each once")
    need_plan(book, plan)
    return mend(book, plan, day, changed)


def choices(days, many):
    """A list of all tuples of so many of these days, which are rising, sorted."""
    if many == 0:
        return [()]
    return [(day,) + rest for at, day in enumerate(days) for rest in choices(days[at + 1:], many - 1)]


def mends_of(book, plan, day, many):
    """Pairs of a choice of so many other days and its mend, sorted by the choices; NoDay, NoPlan or TooWide."""
    need_lost_day(book, day)
    if not 0 <= many < len(book[DAYS]):
        raise NoDay("so many other days the book has not")
    need_plan(book, plan)
    found = choices([own for own in all_days(book) if own != day], many)
    # Asked of all ahead, so that nothing is looked through in vain.
    for changed in found:
        need_narrow(kept_case(book, plan, day, changed), changed)
    return [(changed, mend(book, plan, day, changed)) for changed in found]


def least_mend(book, plan, day, many):
    """("mended", cost, plan, changed, papers) of the cheapest mend on so many days, or ("none", papers)."""
    mends = mends_of(book, plan, day, many)
    # A paper of a greater cost, or of None, is one of the least cost, too.
    papers = tuple(told[-1] for changed, told in mends)
    done = [(told[1], told[2], changed) for changed, told in mends if told[0] == "mended"]
    if not done:
        return ("none", papers)
    cost, new_plan, changed = min(done, key=lambda one: one[0])
    return ("mended", cost, new_plan, changed, papers)


def fewest_changed(book, plan, day):
    """The least number of changed days on which there is a mend, or None; refused as least_mend does."""
    for many in all_days(book):
        if least_mend(book, plan, day, many)[0] == "mended":
            return many
    return None
