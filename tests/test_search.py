import random
import unittest

from shootdays.books import book_of
from shootdays.cases import no_case
from shootdays.errors import TooWide
from shootdays.looker import is_paper
from shootdays.search import best
from tests.helper import (
    cost_in, full_cases, kinds_in, least_cost, plain_book, random_book, random_case, reason_of, some_days,
    wrong_in_paper,
)


def plain(scenes, days, lengths=1, **more):
    """A plain book of so many scenes, all of one length."""
    return plain_book([lengths] * scenes, days, **more)


class BestTest(unittest.TestCase):
    def assert_best(self, book, case, open_days):
        """What is told holds by all full cases and by the words of the paper; tells its first word."""
        told = best(book, case, open_days)
        self.assertIs(type(told), tuple)
        cases = full_cases(case, open_days)
        least = least_cost(book, cases)
        paper = told[-1]
        if least is None:
            self.assertEqual(told, ("none", paper))
        else:
            word, cost, full, _ = told
            self.assertEqual((word, cost), ("cheapest", least))
            self.assertIn(full, cases)
            self.assertIsNone(reason_of(book, full))
            self.assertEqual(cost_in(book, full), least)
            self.assertEqual(len(told), 4)
        self.assertIsNone(wrong_in_paper(book, case, open_days, least, paper))
        self.assertIs(is_paper(book, case, open_days, least, paper), True)
        self.assertLessEqual(kinds_in(told), {tuple, str, int, type(None)})
        self.assertEqual(best(book, case, open_days), told)
        return told[0]

    def test_many_books(self):
        seen = {}
        for seed in range(300):
            book = random_book(seed, days=1 + seed % 4, places=1 + seed % 3, players=seed % 4, scenes=seed % 5, most=18)
            case = random_case(book, seed, (0, 0.3, 0.6, 1)[seed // 5 % 4])
            open_days = some_days(random.Random(seed), len(book[2]), 0.8)
            word = self.assert_best(book, case, open_days)
            lain = len([day for day in case if day is not None])
            seen[word, "all" if lain == len(case) else "some" if lain else "none", bool(open_days)] = True
        for word in ("cheapest", "none"):
            for lain in ("all", "some", "none"):
                self.assertIn((word, lain, True), seen)

    def test_whole_books_of_four_days(self):
        seen = [self.assert_best(random_book(seed, days=4, places=3, players=3, scenes=4, most=20), (None,) * 4, (0, 1, 2, 3))
                for seed in range(25)]
        self.assertEqual(set(seen), {"cheapest", "none"})

    def test_more_days_and_fewer_scenes(self):
        for days, scenes in ((5, 3), (6, 2), (7, 2), (8, 2), (8, 1), (3, 5)):
            for seed in range(4):
                book = random_book(seed, days=days, places=2, players=2, scenes=scenes, most=20)
                self.assert_best(book, no_case(book), tuple(range(days)))

    def test_one_day_and_eight_scenes(self):
        for seed in range(5):
            book = random_book(seed, days=1, scenes=8)
            self.assertEqual(self.assert_best(book, no_case(book), (0,)), "none")
        self.assertEqual(best(plain(5, 1), (None,) * 5, (0,))[:3], ("cheapest", 8, (0,) * 5))
        self.assertEqual(best(plain(6, 1), (None,) * 6, (0,))[0], "none")

    def test_what_was_laid_stays_beside_open_days_too(self):
        # Day 1 is not open, but a scene lies there; the cheapest full case without that would be another one.
        book = plain(3, 3)
        word, cost, full, paper = best(book, (None, 1, None), (0, 2))
        self.assertEqual((word, cost, full[1]), ("cheapest", 16, 1))
        self.assertEqual(full[0], full[2])
        self.assertIn(full[0], (0, 2))
        self.assertEqual(paper[0], ("a", "c"))
        self.assertEqual(best(book, (None, 1, None), (1,))[:3], ("cheapest", 8, (1, 1, 1)))

    def test_all_laid(self):
        book = plain(2, 2, lengths=5)
        self.assertEqual(best(book, (0, 1), (0, 1)), ("cheapest", 16, (0, 1), ((), (((), ("bound", 16)),))))
        self.assertEqual(best(book, (0, 1), ()), ("cheapest", 16, (0, 1), ((), (((), ("bound", 16)),))))
        self.assertEqual(best(book, (1, 1), (0,)), ("none", ((), (((), ("blocked", ("full", 1))),))))
        self.assertEqual(best(book, (1, 1), ()), ("none", ((), (((), ("blocked", ("full", 1))),))))

    def test_a_book_without_scenes(self):
        for open_days in ((), (0,), (0, 1)):
            told = best(plain(0, 2), (), open_days)
            self.assertEqual(told, ("cheapest", 0, (), ((), (((), ("bound", 0)),))))

    def test_no_open_days_and_scenes_that_are_not_laid(self):
        book = plain(3, 2)
        for case in ((None, None, None), (0, None, 1), (None, 1, 1)):
            order = tuple(row[0] for row, day in zip(book[5], case) if day is None)
            word, paper = best(book, case, ())
            self.assertEqual(word, "none")
            self.assertEqual(sorted(paper[0]), sorted(order))
            self.assertEqual(paper[1], ())
        # Blocked or not makes no other paper.
        tight = plain(3, 2, lengths=5)
        self.assertEqual(best(tight, (0, 0, None), ()), ("none", (("c",), ())))

    def test_a_case_that_is_blocked_already(self):
        book = plain(4, 3, lengths=5)
        word, paper = best(book, (0, 0, None, None), (1, 2))
        self.assertEqual((word, paper[1]), ("none", (((), ("blocked", ("full", 0))),)))
        self.assertEqual(sorted(paper[0]), ["c", "d"])

    def test_the_cheapest_is_not_the_first(self):
        players = [("ada", 10, 9, 8, (0,)), ("bo", 3, 0, 8, ())]
        scenes = [("a", "attic", 5, "any", ("bo",)), ("b", "attic", 5, "any", ("ada",)), ("c", "attic", 4, "any", ("ada",))]
        book = book_of(1, 0, [(9, 9)] * 3, [("attic", 0, ())], players, scenes)
        word, cost, full, _ = best(book, (None,) * 3, (0, 1, 2))
        self.assertEqual((word, cost), ("cheapest", 2 + 3 + 10))
        self.assertEqual(full[1], full[2])

    def test_money_of_sixty_figures(self):
        most = 10 ** 60 - 1
        book = plain(2, 2, lengths=9, crew=most, rent=most)
        self.assertEqual(best(book, (None, None), (0, 1))[:2], ("cheapest", 4 * most))


class WidthTest(unittest.TestCase):
    def assert_wide(self, book, case, open_days, cases):
        with self.assertRaises(TooWide) as caught:
            best(book, case, open_days)
        self.assertEqual(caught.exception.cases, cases)
        self.assertIs(type(caught.exception.cases), int)

    def test_the_widest_that_is_told(self):
        # No width of a book lies between 729, three days of six scenes, and 1,024, four days of five.
        for scenes, days in ((6, 3), (4, 5), (3, 8), (8, 2), (4, 4), (8, 1)):
            for lengths in (1, 4, 5, 10):
                book = plain(scenes, days, lengths)
                open_days = tuple(range(days))
                told = best(book, (None,) * scenes, open_days)
                cases = full_cases((None,) * scenes, open_days)
                least = least_cost(book, cases)
                self.assertEqual(told[0], "none" if least is None else "cheapest")
                if least is not None:
                    self.assertEqual(told[1], least)
                    self.assertEqual(cost_in(book, told[2]), least)
                    self.assertIsNone(reason_of(book, told[2]))
                self.assertIsNone(wrong_in_paper(book, (None,) * scenes, open_days, least, told[-1]))
                self.assertIs(is_paper(book, (None,) * scenes, open_days, least, told[-1]), True)

    def test_something_is_told_of_other_books_too(self):
        for seed in range(5):
            book = random_book(seed, days=3, places=3, players=4, scenes=6)
            self.assertIn(best(book, (None,) * 6, (0, 1, 2))[0], ("cheapest", "none"))

    def test_wider_is_refused(self):
        for scenes, days, cases in ((5, 4, 1024), (4, 6, 1296), (7, 3, 2187), (4, 7, 2401), (5, 5, 3125), (4, 8, 4096),
                                    (8, 3, 6561), (8, 8, 16777216)):
            self.assert_wide(plain(scenes, days), (None,) * scenes, tuple(range(days)), cases)

    def test_just_the_open_days_and_the_scenes_that_are_not_laid_count(self):
        book = plain(8, 8)
        self.assert_wide(book, (0, 1, 2, 3, None, None, None, None), (0, 1, 2, 3, 4, 7), 1296)
        self.assertEqual(best(book, (0, 0, 0, 1, 1, None, None, None), (0, 1, 4, 7))[:2], ("cheapest", 16))
        self.assertEqual(best(book, (0, 0, 0, 0, 0, 1, 1, 1), tuple(range(8)))[:2], ("cheapest", 16))
        self.assertEqual(best(book, (None,) * 8, ())[0], "none")
        self.assertEqual(best(book, (None,) * 8, (5,))[0], "none")

    def test_too_wide_goes_ahead_of_blocked(self):
        self.assert_wide(plain(6, 8, lengths=5), (0, 0, None, None, None, None), tuple(range(1, 8)), 2401)

    def test_what_is_handed_in_stays_and_the_same_is_told_again(self):
        book = plain(3, 3)
        case = (None, 1, None)
        told = best(book, case, (0, 2))
        self.assertEqual(best(book, case, (0, 2)), told)
        self.assertEqual((book, case), (plain(3, 3), (None, 1, None)))


if __name__ == "__main__":
    unittest.main()
