"""The desk: it keeps a book and a case of it, and is told rows, one at a time."""

from shootdays.books import DAYS, player_at, scene_at
from shootdays.deeds import behind_deed, is_deed, put_row
from shootdays.errors import NoName, NoRow, NoText
from shootdays.questions import answer_to, is_question
from shootdays.rows import DAY_FIGURES, begun, need_words, read_name, read_number

# What each word behind a row's first one should be.
FORMS = {
    "lay": ("scene", "day"),
    "take": ("scene",),
    "lose": ("day",),
    "show": (),
    "left": (),
    "cost": (),
    "bound": (),
    "blocked": (),
    "pay": ("player",),
    "order": ("day",),
    "sheet": ("day",),
    "best": (),
}


def read_value(kind, word):
    """The day's number or the name that this word should be, or NoText."""
    if kind == "day":
        return read_number(word, DAY_FIGURES, 0)
    return read_name(word, 0)


def has_value(book, kind, value):
    """Whether the book has this day, scene or player."""
    if kind == "day":
        return value < len(book[DAYS])
    if kind == "scene":
        return scene_at(book, value) is not None
    return player_at(book, value) is not None


def read_values(book, words):
    """The values of the words behind the first one; NoText where they are amiss, NoName where the book has one not."""
    kinds = FORMS[words[0]]
    need_words(words, len(kinds) + 1, len(kinds) + 1, 0)
    # All are read ahead of any that is looked for, as NoText goes ahead of NoName.
    values = [read_value(kind, word) for kind, word in zip(kinds, words[1:])]
    if not all(has_value(book, kind, value) for kind, value in zip(kinds, values)):
        raise NoName(0)
    return values


class Desk:
    """A desk; at first it has no book."""

    def __init__(self):
        self.book = None
        self.case = ()
        # The book and the case ahead of each deed that isn't undone.
        self.past = []

    def say(self, row):
        """The answer to a row; NoRow, Twice, NoName or TooWide where it is refused, which changes nothing."""
        if not isinstance(row, str):
            raise NoRow("what was said is no text")
        try:
            return self.answer(row)
        except NoText:
            raise NoRow("the row is not written as a row for the desk") from None

    def answer(self, row):
        """The answer to a row that is a text; NoText where it is not written as it should be."""
        words = row.split(" ")
        if words[0] == "crew":
            return self.keep(begun(row, 0), ())
        if self.book is None:
            raise NoRow("no book stands")
        if words == ["undo"]:
            return self.undo()
        if words[0] != "day" and not self.book[DAYS]:
            raise NoRow("the book has no day")
        if is_question(words[0]):
            return answer_to(words[0], self.book, self.case, read_values(self.book, words))
        book, case = self.behind(row, words)
        return self.keep(book, case)

    def behind(self, row, words):
        """The book and the case behind a deed."""
        if is_deed(words[0]):
            return behind_deed(words[0], self.book, self.case, read_values(self.book, words))
        # Any other row is read as a book's, which refuses what is none.
        return put_row(self.book, self.case, row)

    def keep(self, book, case):
        """What was is put away for undo, and this stands now."""
        self.past.append((self.book, self.case))
        self.book = book
        self.case = case
        return "ok"

    def undo(self):
        """All is as it was ahead of the last deed."""
        # Where a book stands a deed is left: at least the one that began it.
        self.book, self.case = self.past.pop()
        return "ok"
