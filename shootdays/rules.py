"""What blocks a case: four rules, each an object, asked in their order."""

from shootdays.books import DAYS, NAME, PLACE, PLAYERS, SCENES, place_named
from shootdays.cases import called, on_day
from shootdays.orders import ordered


def tired_day(days, run):
    """The first of these days, rising, by which more than run of them lie in a row, or None."""
    for at in range(run, len(days)):
        # Each day stands once, so those from at - run to at lie in a row just where they span no more than that.
        if days[at] - days[at - run] == run:
            return days[at]
    return None


class Rule:
    """The base of the rules; by itself it is never broken."""

    def word(self):
        """The word with which the rule's reasons begin."""
        return "none"

    def broken(self, book, case):
        """The reason by which the case breaks the rule, or None."""
        return None


class Shut(Rule):
    """No scene is laid at a place that is shut."""

    def word(self):
        """The word with which the rule's reasons begin."""
        return "shut"

    def broken(self, book, case):
        """The word, the first such scene and its day, or None."""
        for scene, day in zip(book[SCENES], case):
            name, rent, shut = place_named(book, scene[PLACE])
            if day in shut:
                return (self.word(), scene[NAME], day)
        return None


class Away(Rule):
    """No player is called on a day on which he is away."""

    def word(self):
        """The word with which the rule's reasons begin."""
        return "away"

    def broken(self, book, case):
        """The word, the first such player and his first such day, or None."""
        for name, pay, hold, run, away in book[PLAYERS]:
            for day in called(book, case, name):
                if day in away:
                    return (self.word(), name, day)
        return None


class Full(Rule):
    """The scenes that are laid on a day fit there."""

    def word(self):
        """The word with which the rule's reasons begin."""
        return "full"

    def broken(self, book, case):
        """The word and the first day on which they don't fit, or None."""
        for day in range(len(book[DAYS])):
            if ordered(book, day, on_day(book, case, day)) is None:
                return (self.word(), day)
        return None


class Tired(Rule):
    """No player is called on more days in a row than his run."""

    def word(self):
        """The word with which the rule's reasons begin."""
        return "tired"

    def broken(self, book, case):
        """The word, the first such player and the first day by which he is, or None."""
        for name, pay, hold, run, away in book[PLAYERS]:
            day = tired_day(called(book, case, name), run)
            if day is not None:
                return (self.word(), name, day)
        return None


def rules():
    """A new list of an object of each rule, in the order in which they are asked."""
    return [Shut(), Away(), Full(), Tired()]


def blocked(book, case):
    """The reason of the first rule that the case breaks, or None."""
    for rule in rules():
        reason = rule.broken(book, case)
        if reason is not None:
            return reason
    return None
