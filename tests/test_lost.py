import itertools
import random
import unittest

from shootdays.books import book_of
from shootdays.costs import cost
from shootdays.errors import NoDay, NoPlan, ShootError, TooWide
from shootdays.looker import is_paper
from shootdays.lost import fewest_changed, least_mend, lost_book, mended
from shootdays.plans import case_of, fault_of
from tests.helper import (
    cost_in, fits, full_cases, has_slip, kinds_in, least_cost, plain_book, random_book, reason_of, some_days,
    wrong_in_paper,
)


def book_lost(book, day):
    """The book with the day lost, by the document's words."""
    days = list(book[2])
    days[day] = (0, 0)
    return (*book[:2], tuple(days), *book[3:])


def kept(book, plan, day, changed):
    """The case of a plan without the scenes of the lost day and the changed days."""
    where = {name: own for own, row in enumerate(plan) for name in row}
    return tuple(None if where[row[0]] == day or where[row[0]] in changed else where[row[0]] for row in book[5])


def some_plan(book, seed):
    """A plan of the book without a fault, or None; its rows stand in any order without a slip."""
    chance = random.Random(seed)
    cases = full_cases((None,) * len(book[5]), range(len(book[2])))
    chance.shuffle(cases)
    case = next((case for case in cases if reason_of(book, case) is None), None)
    if case is None:
        return None
    rows = []
    for day in range(len(book[2])):
        names = [row[0] for row, own in zip(book[5], case) if own == day]
        rows.append(chance.choice([row for row in itertools.permutations(names) if not has_slip(book, day, row)]))
    return tuple(rows)


def books_and_plans(seeds, **more):
    """Random books with a plan of each that has no fault."""
    for seed in seeds:
        book = random_book(seed, **more)
        plan = some_plan(book, seed)
        if plan is not None:
            yield seed, book, plan


class LostBookTest(unittest.TestCase):
    def test_a_day_without_hours_and_light(self):
        book = random_book(1, days=4, places=3, players=3, scenes=4)
        before = repr(book)
        for day in range(4):
            told = lost_book(book, day)
            self.assertEqual(told[2][day], (0, 0))
            self.assertEqual(told, book_lost(book, day))
            self.assertIs(type(told), tuple)
            self.assertIs(type(told[2]), tuple)
            # It is a book still.
            self.assertEqual(book_of(*told), told)
            self.assertEqual(lost_book(told, day), told)
        self.assertEqual(repr(book), before)

    def test_one_day_and_eight(self):
        self.assertEqual(lost_book(plain_book([1], 1), 0)[2], ((0, 0),))
        self.assertEqual(lost_book(plain_book([1], 8), 7)[2], ((9, 0),) * 7 + ((0, 0),))
        self.assertEqual(lost_book(plain_book([1], 8), 0)[2], ((0, 0),) + ((9, 0),) * 7)

    def test_a_player_is_held_over_the_lost_day(self):
        scenes = [("a", "attic", 1, "any", ("ada",)), ("b", "attic", 1, "any", ("ada",))]
        book = book_of(5, 1, [(9, 9)] * 3, [("attic", 3, ())], [("ada", 10, 7, 8, ())], scenes)
        self.assertEqual(cost(lost_book(book, 1), (0, 2)), 10 + 6 + 20 + 7)


class MendedTest(unittest.TestCase):
    def assert_mended(self, book, plan, day, changed):
        """What is told holds by all mends; tells its first word."""
        told = mended(book, plan, day, changed)
        lost = book_lost(book, day)
        case = kept(book, plan, day, changed)
        cases = full_cases(case, changed)
        least = least_cost(lost, cases)
        paper = told[-1]
        self.assertIsNone(wrong_in_paper(lost, case, changed, least, paper))
        self.assertIs(is_paper(lost, case, changed, least, paper), True)
        self.assertLessEqual(kinds_in(told), {tuple, str, int})
        self.assertEqual(mended(book, plan, day, changed), told)
        if least is None:
            self.assertEqual(told, ("none", paper))
            return "none"
        word, cost_told, new_plan, _ = told
        self.assertEqual((word, cost_told, len(told)), ("mended", least, 4))
        self.assertIsNone(fault_of(lost, new_plan))
        self.assertEqual(len(new_plan), len(plan))
        self.assertEqual(new_plan[day], ())
        for own, row in enumerate(plan):
            if own != day and own not in changed:
                self.assertEqual(new_plan[own], row)
        self.assertEqual(cost_in(lost, case_of(book, new_plan)), least)
        self.assertFalse(any(has_slip(lost, own, row) for own, row in enumerate(new_plan)))
        self.assertIsNone(reason_of(lost, case_of(book, new_plan)))
        return word

    def test_many_books_and_all_changed_days(self):
        seen = {"mended": 0, "none": 0}
        for seed, book, plan in books_and_plans(range(60), days=3, places=2, players=2, scenes=4, most=18):
            for day in range(3):
                others = [own for own in range(3) if own != day]
                for many in range(3):
                    for changed in itertools.combinations(others, many):
                        seen[self.assert_mended(book, plan, day, changed)] += 1
        self.assertGreater(min(seen.values()), 50)

    def test_more_days(self):
        seen = {"mended": 0, "none": 0}
        for seed, book, plan in books_and_plans(range(80), days=5, places=2, players=2, scenes=3, most=18):
            chance = random.Random(seed)
            day = chance.randrange(5)
            changed = tuple(own for own in some_days(chance, 5, 0.7) if own != day)
            seen[self.assert_mended(book, plan, day, changed)] += 1
        self.assertGreater(min(seen.values()), 2)

    def test_all_plans_gone_through(self):
        # All rows of all days, not cases alone.
        mends = 0
        for seed, book, plan in books_and_plans(range(25), days=3, places=2, players=2, scenes=3, most=14):
            lost = book_lost(book, 1)
            names = [row[0] for row in book[5]]
            for changed in ((), (0,), (2,), (0, 2)):
                free = [name for own in (1, *changed) for name in plan[own]]
                costs = []
                for row in itertools.permutations(free):
                    for cut in range(len(row) + 1):
                        parts = {own: part for own, part in zip(changed, (row[:cut], row[cut:]))}
                        if len(changed) < 2 and cut < len(row):
                            continue
                        new = tuple(() if own == 1 else parts.get(own, plan[own]) for own in range(3))
                        if sorted(name for part in new for name in part) == sorted(names) and fault_of(lost, new) is None:
                            costs.append(cost_in(lost, case_of(book, new)))
                told = mended(book, plan, 1, changed)
                self.assertEqual(told[1] if told[0] == "mended" else None, min(costs, default=None))
                mends += bool(costs)
        self.assertGreater(mends, 10)

    def test_days_that_stay_keep_their_order(self):
        book = plain_book([1, 2, 3], 3)
        for row in itertools.permutations("abc"):
            word, cost_told, new_plan, paper = mended(book, (row, (), ()), 1, ())
            self.assertEqual((word, cost_told, new_plan), ("mended", 8, (row, (), ())))
            self.assertEqual(paper, ((), (((), ("bound", 8)),)))
            self.assertEqual(mended(book, (row, (), ()), 2, (1,))[:3], ("mended", 8, (row, (), ())))

    def test_nothing_was_shot_on_the_lost_day(self):
        # What is on a changed day may be laid better, and the paper is of the book with the day lost.
        scenes = [(name, "attic", 5, "any", ("ada",)) for name in "ab"]
        book = book_of(1, 0, [(9, 9)] * 4, [("attic", 0, ())], [("ada", 9, 8, 8, ())], scenes)
        plan = (("a",), (), (), ("b",))
        self.assertEqual(mended(book, plan, 1, ())[:3], ("mended", 36, plan))
        self.assertEqual(mended(book, plan, 1, (2,))[:3], ("mended", 36, plan))
        self.assertEqual(mended(book, plan, 1, (2, 3))[:3], ("mended", 2 + 18 + 8, (("a",), (), ("b",), ())))
        self.assertEqual(mended(book, plan, 1, (0, 2, 3))[:2], ("mended", 20))

    def test_no_changed_days_and_something_lost(self):
        book = plain_book([1, 2], 2)
        self.assertEqual(mended(book, (("b", "a"), ()), 0, ()), ("none", (("a", "b"), ())))
        self.assertEqual(mended(book, (("a",), ("b",)), 0, ()), ("none", (("a",), ())))

    def test_none_where_it_does_not_fit(self):
        book = plain_book([5, 5, 5], 3)
        told = mended(book, (("a",), ("b",), ("c",)), 2, (0, 1))
        self.assertEqual(told[0], "none")
        self.assertEqual({reason for _, reason in told[1][1]}, {("blocked", ("full", 0)), ("blocked", ("full", 1))})
        self.assertEqual(self.assert_mended(book, (("a",), ("b",), ("c",)), 2, (0, 1)), "none")

    def test_a_book_of_one_day(self):
        self.assertEqual(mended(plain_book([], 1), ((),), 0, ()), ("mended", 0, ((),), ((), (((), ("bound", 0)),))))
        self.assertEqual(mended(plain_book([1], 1), (("a",),), 0, ()), ("none", (("a",), ())))


class RefusedTest(unittest.TestCase):
    BOOK = plain_book([5, 5, 1], 3)
    PLAN = (("a", "c"), ("b",), ())

    def refused(self, kind, *asked, ask=mended):
        with self.assertRaises(ShootError) as caught:
            ask(*asked)
        self.assertIs(type(caught.exception), kind)
        return caught.exception

    def test_a_lost_day_that_is_none(self):
        for day in (-1, 3, 8, 10 ** 20, -(10 ** 20)):
            self.refused(NoDay, self.BOOK, self.PLAN, day, ())
            self.refused(NoDay, self.BOOK, self.PLAN, day, (0,))

    def test_changed_days_that_are_not_as_told(self):
        for changed in ((0, 0), (0, 1), (2, 2), (2, 0), (1,), (0, 1, 2), (3,), (-1,), (0, 3), (-1, 0), (0, 2, 2), (10 ** 20,)):
            self.refused(NoDay, self.BOOK, self.PLAN, 1, changed)
        for changed in ((), (0,), (2,), (0, 2)):
            self.assertEqual(mended(self.BOOK, self.PLAN, 1, changed)[0], "mended" if 2 in changed else "none")

    def test_a_plan_that_has_a_fault(self):
        for plan, fault in (
            ((("a", "c"), ("b",)), ("days", 2)),
            ((), ("days", 0)),
            ((("a", "c"), ("b",), ("x",)), ("strange", "x")),
            ((("a", "c"), ("b",), ("",)), ("strange", "")),
            ((("a", "c"), ("b",), ("a",)), ("twice", "a")),
            ((("a",), ("b",), ()), ("lost", "c")),
            ((("a", "b"), ("c",), ()), ("long", "b", 0)),
        ):
            self.assertEqual(fault_of(self.BOOK, plan), fault)
            self.assertEqual(self.refused(NoPlan, self.BOOK, plan, 1, (0,)).fault, fault)
            self.assertEqual(self.refused(NoPlan, self.BOOK, plan, 1, 0, ask=least_mend).fault, fault)
            self.assertEqual(self.refused(NoPlan, self.BOOK, plan, 1, ask=fewest_changed).fault, fault)

    def test_a_fault_of_the_book_with_the_day_lost_is_none(self):
        # Shot on the lost day is what the plan mends.
        self.assertEqual(mended(self.BOOK, self.PLAN, 0, (1, 2))[0], "mended")

    def test_too_wide(self):
        book = plain_book([1] * 5, 5)
        plan = (("a", "b", "c", "d", "e"), (), (), (), ())
        self.assertEqual(self.refused(TooWide, book, plan, 0, (1, 2, 3, 4)).cases, 1024)
        self.assertEqual(self.refused(TooWide, book, plan, 1, (0, 2, 3, 4)).cases, 1024)
        self.assertEqual(mended(book, plan, 0, (1, 3, 4))[0], "mended")

    def test_two_at_once_in_the_order_told(self):
        book = plain_book([1] * 5, 5)
        bad = (("a", "b", "c", "d", "e"), (), (), (), ("x",))
        self.refused(NoDay, book, bad, 5, (1, 2, 3, 4))
        self.refused(NoDay, book, bad, 0, (0, 1, 2, 3, 4))
        self.refused(NoDay, book, bad, 0, (4, 1))
        # What is a fault by the book goes ahead of the width.
        self.assertEqual(self.refused(NoPlan, book, bad, 0, (1, 2, 3, 4)).fault, ("strange", "x"))
        long = plain_book([9, 9, 1, 1, 1], 5)
        self.assertEqual(
            self.refused(NoPlan, long, (("a", "b"), ("c", "d", "e"), (), (), ()), 0, (1, 2, 3, 4)).fault, ("long", "b", 0)
        )
        self.refused(NoDay, book, bad, 5, 2, ask=least_mend)
        self.refused(NoDay, book, bad, 0, 5, ask=least_mend)
        self.refused(NoPlan, book, bad, 0, 4, ask=least_mend)
        self.refused(NoDay, book, bad, -1, ask=fewest_changed)
        self.refused(NoPlan, book, bad, 0, ask=fewest_changed)

    def test_least_mend_of_another_number_of_days(self):
        for many in (-1, 3, 4, 8, 10 ** 20):
            self.refused(NoDay, self.BOOK, self.PLAN, 1, many, ask=least_mend)
        for day in (-1, 3):
            self.refused(NoDay, self.BOOK, self.PLAN, day, 1, ask=least_mend)
            self.refused(NoDay, self.BOOK, self.PLAN, day, ask=fewest_changed)

    def test_least_mend_by_the_first_choice_that_is_too_wide(self):
        book = plain_book([1] * 8, 8)
        # On the days 0, 1, 2 four scenes are laid anew; on 0, 1, 3 seven, which is the first choice that is too wide.
        plan = (("a",), ("b",), ("c",), ("d", "e", "f", "g"), (), (), (), ("h",))
        self.assertEqual(self.refused(TooWide, book, plan, 7, 3, ask=least_mend).cases, 3 ** 7)
        self.assertEqual(self.refused(TooWide, book, plan, 0, 4, ask=least_mend).cases, 4 ** 7)
        self.assertEqual(self.refused(TooWide, book, plan, 3, 7, ask=least_mend).cases, 7 ** 8)
        for seed in range(40):
            chance = random.Random(seed)
            names = list("abcdefgh")
            rows = [[] for _ in range(8)]
            for name in names:
                chance.choice([row for row in rows if len(row) < 5]).append(name)
            plan = tuple(tuple(row) for row in rows)
            day, many = chance.randrange(8), chance.randint(2, 7)
            wide = first_too_wide(plan, day, many)
            if wide is not None:
                self.assertEqual(self.refused(TooWide, book, plan, day, many, ask=least_mend).cases, wide)

    def test_fewest_changed_refuses_what_its_least_mends_do(self):
        # Where one day is enough, wider choices are never asked.
        book = plain_book([1] * 5, 6)
        plan = (("a", "b", "c", "d", "e"), (), (), (), (), ())
        self.refused(TooWide, book, plan, 0, 4, ask=least_mend)
        self.assertEqual(fewest_changed(book, plan, 0), 1)
        # Four long days are needed, which is too wide.
        hours = [(45, 0)] + [(9, 0)] * 5
        rows = [(name, "attic", 9, "any", ()) for name in "abcde"]
        tight = book_of(5, 1, hours, [("attic", 3, ())], [], rows)
        self.assertEqual(self.refused(TooWide, tight, plan, 0, ask=fewest_changed).cases, 1024)


def first_too_wide(plan, day, many):
    """The width of the first choice that is too wide, or None."""
    others = [own for own in range(len(plan)) if own != day]
    for changed in itertools.combinations(others, many):
        width = many ** sum(len(plan[own]) for own in (day, *changed))
        if width > 1000:
            return width
    return None


class LeastMendTest(unittest.TestCase):
    def assert_least(self, book, plan, day, many):
        told = least_mend(book, plan, day, many)
        lost = book_lost(book, day)
        choices = list(itertools.combinations([own for own in range(len(plan)) if own != day], many))
        costs = {}
        for changed in choices:
            costs[changed] = least_cost(lost, full_cases(kept(book, plan, day, changed), changed))
        least = min((cost_told for cost_told in costs.values() if cost_told is not None), default=None)
        papers = told[-1]
        self.assertIs(type(papers), tuple)
        self.assertEqual(len(papers), len(choices))
        for changed, paper in zip(choices, papers):
            case = kept(book, plan, day, changed)
            self.assertIsNone(wrong_in_paper(lost, case, changed, least, paper))
            self.assertIs(is_paper(lost, case, changed, least, paper), True)
        self.assertEqual(least_mend(book, plan, day, many), told)
        self.assertLessEqual(kinds_in(told), {tuple, str, int})
        if least is None:
            self.assertEqual(told, ("none", papers))
            return told
        word, cost_told, new_plan, changed, _ = told
        self.assertEqual((word, cost_told, len(told)), ("mended", least, 5))
        self.assertEqual(costs[changed], least)
        self.assertEqual(new_plan[day], ())
        self.assertIsNone(fault_of(lost, new_plan))
        self.assertEqual(cost_in(lost, case_of(book, new_plan)), least)
        for own, row in enumerate(plan):
            if own != day and own not in changed:
                self.assertEqual(new_plan[own], row)
        return told

    def test_many_books_and_all_numbers_of_days(self):
        seen = {"mended": 0, "none": 0}
        mixed = 0
        for seed, book, plan in books_and_plans(range(50), days=4, places=2, players=2, scenes=3, most=16):
            day = seed % 4
            words = []
            for many in range(4):
                told = self.assert_least(book, plan, day, many)
                seen[told[0]] += 1
                words.append(told[0])
                if told[0] == "mended":
                    mixed += any(not paper[1] or all(end[1][0] == "blocked" for end in paper[1]) for paper in told[-1])
            fewest = fewest_changed(book, plan, day)
            self.assertEqual(fewest, words.index("mended") if "mended" in words else None)
            self.assertEqual(fewest_changed(book, plan, day), fewest)
        self.assertGreater(min(seen.values()), 20)
        # Choices without a mend beside such with one.
        self.assertGreater(mixed, 3)

    def test_fewer_days_and_more_of_them(self):
        for days, scenes in ((1, 2), (2, 3), (3, 4), (5, 2), (8, 1)):
            for seed, book, plan in books_and_plans(range(12), days=days, scenes=scenes, most=20):
                for many in range(min(days, 3)):
                    self.assert_least(book, plan, seed % days, many)

    def test_the_papers_stand_by_the_sorted_choices(self):
        book = plain_book([5, 5], 4)
        plan = (("a",), ("b",), (), ())
        word, cost_told, new_plan, changed, papers = least_mend(book, plan, 0, 2)
        self.assertEqual((word, cost_told), ("mended", 16))
        self.assertEqual([paper[0] for paper in papers], [("a", "b"), ("a", "b"), ("a",)])
        days = [{day for row, _ in paper[1] for day in row} for paper in papers]
        self.assertEqual(days, [{1, 2}, {1, 3}, {2, 3}])

    def test_no_days(self):
        book = plain_book([5, 5], 3)
        plan = (("a",), ("b",), ())
        self.assertEqual(least_mend(book, plan, 2, 0), ("mended", 16, plan, (), (((), (((), ("bound", 16)),)),)))
        self.assertEqual(least_mend(book, plan, 1, 0), ("none", ((("b",), ()),)))
        self.assertEqual(least_mend(plain_book([], 1), ((),), 0, 0), ("mended", 0, ((),), (), (((), (((), ("bound", 0)),)),)))

    def test_the_cheapest_choice_is_not_the_first(self):
        scenes = [("a", "attic", 5, "any", ("ada",)), ("b", "attic", 5, "any", ("ada",))]
        book = book_of(1, 0, [(9, 9)] * 4, [("attic", 0, ())], [("ada", 9, 8, 8, ())], scenes)
        # Ada waits on two days between; on day 2 she waits on none.
        word, cost_told, new_plan, changed, papers = least_mend(book, ((), ("a",), (), ("b",)), 1, 1)
        self.assertEqual((word, cost_told, new_plan, changed), ("mended", 20, ((), (), ("a",), ("b",)), (2,)))
        self.assertEqual(len(papers), 3)

    def test_a_wider_choice_may_cost_as_much(self):
        book = plain_book([1, 1], 3)
        self.assertEqual(least_mend(book, (("a", "b"), (), ()), 0, 1)[1], 8)
        self.assertEqual(least_mend(book, (("a", "b"), (), ()), 0, 2)[1], 8)


class FewestChangedTest(unittest.TestCase):
    def test_none_zero_one_and_more(self):
        book = plain_book([5, 5, 5], 4)
        self.assertEqual(fewest_changed(book, (("a",), ("b",), ("c",), ()), 3), 0)
        self.assertEqual(fewest_changed(book, (("a",), ("b",), ("c",), ()), 0), 1)
        self.assertIsNone(fewest_changed(plain_book([5, 5, 5], 3), (("a",), ("b",), ("c",)), 0))
        self.assertIsNone(fewest_changed(plain_book([5], 1), (("a",),), 0))
        self.assertEqual(fewest_changed(plain_book([], 1), ((),), 0), 0)

    def test_two_days_must_change(self):
        # The long scene has one day left, from which the short one must go.
        scenes = [("a", "attic", 9, "any", ()), ("b", "attic", 4, "any", ())]
        book = book_of(5, 1, [(9, 0), (9, 0), (4, 0)], [("attic", 3, ())], [], scenes)
        plan = (("a",), ("b",), ())
        self.assertEqual(fewest_changed(book, plan, 0), 2)
        self.assertEqual(least_mend(book, plan, 0, 1)[0], "none")
        self.assertEqual(least_mend(book, plan, 0, 2)[1:4], (16, ((), ("a",), ("b",)), (1, 2)))

    def test_it_is_a_whole_number(self):
        self.assertIs(type(fewest_changed(plain_book([5], 2), (("a",), ()), 1)), int)


class StaysTest(unittest.TestCase):
    def test_what_is_handed_in_stays(self):
        book = random_book(9, days=4, places=2, players=2, scenes=3, most=20)
        plan = some_plan(book, 9)
        before = repr((book, plan))
        mended(book, plan, 0, (1, 2))
        least_mend(book, plan, 0, 2)
        fewest_changed(book, plan, 0)
        self.assertEqual(repr((book, plan)), before)

    def test_plans_that_the_tests_mend_hold(self):
        for seed, book, plan in books_and_plans(range(20), days=3, scenes=4, most=18):
            self.assertIsNone(fault_of(book, plan))
            self.assertTrue(all(fits(book, day, row) for day, row in enumerate(plan)))


if __name__ == "__main__":
    unittest.main()
