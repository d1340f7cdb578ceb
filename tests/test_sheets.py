import itertools
import random
import unittest

from shootdays.books import book_of
from shootdays.errors import NoSheet, ShootError
from shootdays.sheets import calls_of, read_sheets, sheet, sheets
from tests.helper import hours_of, random_book

# The sun is over at six on day 0, and at once on day 2; day 1 is a break.
BOOK = book_of(
    500, 2, [(14, 6), (0, 0), (12, 0)], [("harbour", 40, ()), ("attic", 0, (1,))],
    [("ada", 90, 30, 2, (1,)), ("bo", 50, 50, 8, ())],
    [
        ("chase", "harbour", 3, "sun", ("bo", "ada")),
        ("kiss", "attic", 2, "any", ()),
        ("storm", "harbour", 4, "moon", ("ada",)),
        ("day", "attic", 1, "any", ("bo",)),
    ],
)
PLAN = (("chase", "storm", "kiss"), (), ("day",))
TEXT = (
    "day 0 14 6\n0 3 harbour chase bo ada\n6 10 harbour storm ada\n12 14 attic kiss\nday 1 0 0\nday 2 12 0\n0 1 attic day bo"
)


def all_plans(book):
    """Every plan of unlike scenes of the book, some of which may be nowhere."""
    names = [row[0] for row in book[5]]
    many = len(book[2])
    for size in range(len(names) + 1):
        for row in itertools.permutations(names, size):
            for cuts in itertools.combinations_with_replacement(range(size + 1), many - 1):
                edges = (0, *cuts, size)
                yield tuple(row[edges[day]:edges[day + 1]] for day in range(many))


def random_plan(book, chance):
    names = [row[0] for row in book[5] if chance.random() < 0.8]
    chance.shuffle(names)
    rows = [[] for _ in book[2]]
    for name in names:
        chance.choice(rows).append(name)
    return tuple(tuple(row) for row in rows)


def sheet_by_words(book, day, row):
    """The sheet of a day by the document's words."""
    scenes = {scene[0]: scene for scene in book[5]}
    rows = [["day", day, *book[2][day]]]
    rows += [[start, end, scenes[name][1], name, *scenes[name][4]] for name, start, end in hours_of(book, day, row)]
    return "\n".join(" ".join(map(str, words)) for words in rows)


class SheetTest(unittest.TestCase):
    def test_each_day(self):
        self.assertEqual(sheet(BOOK, PLAN, 0), "\n".join(TEXT.split("\n")[:4]))
        self.assertEqual(sheet(BOOK, PLAN, 1), "day 1 0 0")
        self.assertEqual(sheet(BOOK, PLAN, 2), "day 2 12 0\n0 1 attic day bo")
        self.assertEqual(sheets(BOOK, PLAN), TEXT)

    def test_empty_days(self):
        self.assertEqual(sheets(BOOK, ((), (), ())), "day 0 14 6\nday 1 0 0\nday 2 12 0")
        self.assertEqual(sheets(book_of(1, 1, [(0, 0)], [], [], []), ((),)), "day 0 0 0")
        self.assertEqual(sheet(BOOK, ((), ("kiss",), ()), 0), "day 0 14 6")

    def test_moves_and_scenes_that_wait(self):
        # A move of two hours between two places; the moon scene starts no sooner than at six.
        self.assertEqual(
            sheet(BOOK, (("kiss", "storm", "day", "chase"), (), ()), 0),
            "day 0 14 6\n0 2 attic kiss\n6 10 harbour storm ada\n12 13 attic day bo\n15 18 harbour chase bo ada",
        )
        self.assertEqual(sheet(BOOK, (("storm",), (), ()), 0), "day 0 14 6\n6 10 harbour storm ada")
        self.assertEqual(sheet(BOOK, ((), (), ("storm",)), 2), "day 2 12 0\n0 4 harbour storm ada")

    def test_rows_with_slips_have_sheets_too(self):
        self.assertEqual(sheet(BOOK, ((), ("chase", "kiss"), ()), 1), "day 1 0 0\n0 3 harbour chase bo ada\n5 7 attic kiss")

    def test_as_many_figures_as_they_need(self):
        most = 10 ** 12 - 1
        rows = [(name, place, most, "any", ()) for name, place in (("a", "p"), ("b", "q"), ("c", "p"))]
        book = book_of(1, most, [(most, most)], [("p", 1, ()), ("q", 1, ())], [], rows)
        self.assertEqual(
            sheets(book, (("a", "b", "c"),)),
            f"day 0 {most} {most}\n0 {most} p a\n{2 * most} {3 * most} q b\n{4 * most} {5 * most} p c",
        )
        self.assertEqual(read_sheets(book, sheets(book, (("a", "b", "c"),))), (("a", "b", "c"),))

    def test_many_plans_by_the_documents_words(self):
        for seed in range(150):
            book = random_book(seed, days=1 + seed % 8, places=1 + seed % 3, players=seed % 4, scenes=seed % 9)
            plan = random_plan(book, random.Random(seed))
            days = [sheet_by_words(book, day, row) for day, row in enumerate(plan)]
            self.assertEqual([sheet(book, plan, day) for day in range(len(plan))], days)
            self.assertEqual(sheets(book, plan), "\n".join(days))
            self.assertIs(type(sheets(book, plan)), str)
            self.assertEqual(sheets(book, plan), sheets(book, plan))


class ReadTest(unittest.TestCase):
    def refused(self, book, text, row):
        with self.assertRaises(ShootError) as caught:
            read_sheets(book, text)
        self.assertIs(type(caught.exception), NoSheet)
        self.assertEqual(caught.exception.row, row, text)
        self.assertIs(type(caught.exception.row), int)

    def test_read_back(self):
        self.assertEqual(read_sheets(BOOK, TEXT), PLAN)
        for seed in range(150):
            book = random_book(seed, days=1 + seed % 8, places=1 + seed % 3, players=seed % 4, scenes=seed % 9)
            plan = random_plan(book, random.Random(seed))
            told = read_sheets(book, sheets(book, plan))
            self.assertEqual(told, plan)
            self.assertEqual({type(told), *map(type, told)}, {tuple})

    def test_every_plan_of_some_books(self):
        for seed in range(4):
            book = random_book(seed, days=2, places=2, players=2, scenes=4)
            plans = list(all_plans(book))
            texts = [sheets(book, plan) for plan in plans]
            self.assertEqual(len(set(texts)), len(plans))
            for plan, text in zip(plans, texts):
                self.assertEqual(read_sheets(book, text), plan)

    def test_what_is_no_text(self):
        for thing in (None, 0, 5, True, b"day 0 14 6", [TEXT], (TEXT,), {}, ("day",), PLAN, TEXT.split("\n")):
            self.refused(BOOK, thing, 0)

    def test_days_that_are_lacking(self):
        rows = TEXT.split("\n")
        for many in range(1, 6):
            self.refused(BOOK, "\n".join(rows[:many]), many)
        # Behind the row of the last day the rest may lack: some scenes are nowhere then.
        self.assertEqual(read_sheets(BOOK, "\n".join(rows[:6])), (("chase", "storm", "kiss"), (), ()))
        self.refused(BOOK, "day 0 14 6", 1)

    def test_rows_that_are_none(self):
        self.refused(BOOK, "", 0)
        self.refused(BOOK, "\n", 0)
        self.refused(BOOK, " ", 0)
        self.refused(BOOK, "\n" + TEXT, 0)
        self.refused(BOOK, TEXT + "\n", 7)
        self.refused(BOOK, TEXT + "\n\n", 7)
        self.refused(BOOK, "day 0 14 6\n\n", 1)
        self.refused(BOOK, TEXT.replace("\n", "\n\n"), 1)

    def test_rows_of_days(self):
        for row in (
            "day 0 14 7", "day 0 15 6", "day 1 14 6", "day 1 0 0", "day 0 14", "day 0 14 6 ", " day 0 14 6", "day 0  14 6",
            "day 00 14 6", "day 0 014 6", "day 0 14 06", "day 0 14 6 0", "Day 0 14 6", "day", "days 0 14 6", "0 14 6",
            "day 0 14 6\t", "day 0 14 +6", "day -0 14 6", "day 0 14 6\r",
        ):
            self.refused(BOOK, TEXT.replace("day 0 14 6", row, 1), 0)
        # A day left out, told again, too early, too many.
        rows = TEXT.split("\n")
        self.refused(BOOK, "\n".join(rows[:4] + rows[5:]), 4)
        self.refused(BOOK, "\n".join(rows[:5] + rows[4:]), 5)
        self.refused(BOOK, "\n".join(rows[:1] + rows), 1)
        self.refused(BOOK, "\n".join([rows[0], rows[5]]), 1)
        self.refused(BOOK, TEXT + "\nday 3 0 0", 7)
        self.refused(BOOK, TEXT + "\nday 2 12 0", 7)

    def test_rows_of_scenes(self):
        for row in (
            "1 4 harbour chase bo ada", "0 4 harbour chase bo ada", "0 3 attic chase bo ada", "0 3 harbour chase ada bo",
            "0 3 harbour chase bo", "0 3 harbour chase", "0 3 harbour chase bo ada ada", "0 3 harbour chase bo ada ",
            "0 3 harbour  chase bo ada", "00 3 harbour chase bo ada", "0 03 harbour chase bo ada", "0 3 harbour", "0 3",
            "0 3 harbour x bo ada", "0 3 harbour Chase bo ada", "0 3 chase harbour bo ada", "chase", "0 3 harbour ", "0",
            "0 3 harbour kiss bo ada", "+0 3 harbour chase bo ada", " 0 3 harbour chase bo ada", "0 3 harbour chase bo,ada",
        ):
            self.refused(BOOK, TEXT.replace("0 3 harbour chase bo ada", row, 1), 1)

    def test_a_scene_that_came_ahead(self):
        rows = TEXT.split("\n")
        self.refused(BOOK, "\n".join([*rows[:2], "3 6 harbour chase bo ada", *rows[2:]]), 2)
        self.refused(BOOK, TEXT + "\n3 5 attic kiss", 7)
        self.refused(BOOK, "day 0 14 6\nday 1 0 0\n0 3 harbour chase bo ada\nday 2 12 0\n0 3 harbour chase bo ada", 4)
        self.refused(BOOK, TEXT + "\n1 2 attic day bo", 7)

    def test_hours_hang_on_the_rows_ahead(self):
        # Without the row ahead the scene starts sooner; the moon scene waits just the same.
        rows = TEXT.split("\n")
        self.assertEqual(read_sheets(BOOK, "\n".join(rows[:1] + rows[2:])), (("storm", "kiss"), (), ("day",)))
        self.refused(BOOK, "\n".join(rows[:1] + rows[3:]), 1)
        self.refused(BOOK, "\n".join([rows[0], rows[2], rows[1], *rows[3:]]), 2)

    def test_a_scene_ahead_of_any_day(self):
        self.refused(BOOK, "0 2 attic kiss", 0)
        self.refused(BOOK, "0 2 attic kiss\n" + TEXT, 0)

    def test_a_scene_and_a_player_called_day(self):
        rows = [("day", "day", 1, "any", ("day",)), ("a", "day", 2, "any", ())]
        book = book_of(1, 1, [(9, 9)] * 2, [("day", 1, ())], [("day", 1, 1, 1, ())], rows)
        text = "day 0 9 9\n0 1 day day day\n1 3 day a\nday 1 9 9"
        self.assertEqual(sheets(book, (("day", "a"), ())), text)
        self.assertEqual(read_sheets(book, text), (("day", "a"), ()))
        self.refused(book, text.replace("0 1 day day day", "day 1 day day day"), 1)

    def test_spoiled_texts_against_all_plans(self):
        seen = {}
        for seed in range(6):
            book = random_book(seed, days=1 + seed % 3, places=2, players=2, scenes=3)
            plans = list(all_plans(book))
            texts = {sheets(book, plan): plan for plan in plans}
            begun = {tuple(text.split("\n")[:many]) for text in texts for many in range(1, text.count("\n") + 2)}
            for turn in range(400):
                chance = random.Random(seed * 1000 + turn)
                text = spoiled(chance, sheets(book, chance.choice(plans)), sheets(book, chance.choice(plans)))
                if text in texts:
                    self.assertEqual(read_sheets(book, text), texts[text])
                    seen["plan"] = True
                    continue
                rows = tuple(text.split("\n"))
                wrong = next((at for at in range(len(rows)) if rows[:at + 1] not in begun), len(rows))
                self.refused(book, text, wrong)
                seen[wrong == len(rows), wrong == 0] = True
        self.assertEqual(set(seen), {"plan", (True, False), (False, True), (False, False)})

    def test_what_is_told_is_told_again(self):
        self.assertEqual(read_sheets(BOOK, TEXT), read_sheets(BOOK, TEXT))
        self.assertEqual(sheets(BOOK, PLAN), TEXT)


def spoiled(chance, text, other):
    """A text changed by chance: a sign, or a row left out, put in, put elsewhere."""
    rows, others = text.split("\n"), other.split("\n")
    kind, at = chance.randrange(6), chance.randrange(len(rows))
    if kind == 0:
        place = chance.randrange(len(text) + 1)
        return text[:place] + chance.choice("0123456789 \nabcday") + text[place + chance.randrange(2):]
    if kind == 1:
        del rows[at]
    elif kind == 2:
        rows.insert(at, chance.choice(others))
    elif kind == 3:
        rows[at] = chance.choice(others)
    elif kind == 4:
        rows.insert(chance.randrange(len(rows)), rows.pop(at))
    else:
        rows = rows[:at] + others[at:]
    return "\n".join(rows)


class CallsTest(unittest.TestCase):
    def test_one_and_more_scenes_on_a_day(self):
        self.assertEqual(calls_of(BOOK, PLAN, "ada"), [(0, 0, 10)])
        self.assertEqual(calls_of(BOOK, PLAN, "bo"), [(0, 0, 3), (2, 0, 1)])
        # From the first scene of his to the last one, whatever lies between and about.
        plan = (("kiss", "chase", "day", "storm"), (), ())
        self.assertEqual(calls_of(BOOK, plan, "bo"), [(0, 4, 10)])
        self.assertEqual(calls_of(BOOK, plan, "ada"), [(0, 4, 16)])

    def test_nobody_is_called(self):
        self.assertEqual(calls_of(BOOK, ((), (), ()), "ada"), [])
        self.assertEqual(calls_of(BOOK, (("kiss",), (), ("day",)), "ada"), [])
        self.assertIs(type(calls_of(BOOK, ((), (), ()), "ada")), list)

    def test_many_plans_by_the_documents_words(self):
        for seed in range(150):
            book = random_book(seed, days=1 + seed % 8, places=1 + seed % 3, players=1 + seed % 4, scenes=seed % 9)
            plan = random_plan(book, random.Random(seed))
            casts = {row[0]: row[4] for row in book[5]}
            for player in [row[0] for row in book[4]]:
                wanted = []
                for day, row in enumerate(plan):
                    hours = [(start, end) for name, start, end in hours_of(book, day, row) if player in casts[name]]
                    if hours:
                        wanted.append((day, hours[0][0], hours[-1][1]))
                told = calls_of(book, plan, player)
                self.assertEqual(told, wanted)
                self.assertTrue(all(type(call) is tuple for call in told))

    def test_what_is_told_is_the_askers_own(self):
        told = calls_of(BOOK, PLAN, "bo")
        told.clear()
        self.assertEqual(calls_of(BOOK, PLAN, "bo"), [(0, 0, 3), (2, 0, 1)])


if __name__ == "__main__":
    unittest.main()
