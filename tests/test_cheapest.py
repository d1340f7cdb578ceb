import unittest

from shootdays.books import book_of
from shootdays.bounds import bound
from shootdays.cases import no_case
from shootdays.cheapest import cheapest
from shootdays.costs import bill, cost
from shootdays.first import first_fit
from shootdays.looker import is_paper
from shootdays.plans import case_of, fault_of
from tests.helper import (
    bound_in, cost_in, full_cases, has_slip, kinds_in, least_cost, plain_book, random_book, reason_of,
    wrong_in_paper,
)


def plain(scenes, days, lengths=1, **more):
    """A plain book of so many scenes, all of one length."""
    return plain_book([lengths] * scenes, days, **more)


class CheapestTest(unittest.TestCase):
    def assert_cheapest(self, book):
        told = cheapest(book)
        self.assertIs(type(told), tuple)
        days = tuple(range(len(book[2])))
        least = least_cost(book, full_cases(no_case(book), days))
        self.assertIsNone(wrong_in_paper(book, no_case(book), days, least, told[-1]))
        self.assertIs(is_paper(book, no_case(book), days, least, told[-1]), True)
        self.assertLessEqual(kinds_in(told), {tuple, str, int})
        self.assertEqual(cheapest(book), told)
        if least is None:
            self.assertEqual(told, ("none", told[-1]))
            return "none"
        word, sum_told, plan, _ = told
        self.assertEqual((word, sum_told), ("cheapest", least))
        self.assertIsNone(fault_of(book, plan))
        self.assertEqual(len(plan), len(days))
        self.assertEqual(sorted(name for row in plan for name in row), sorted(row[0] for row in book[5]))
        self.assertFalse(any(has_slip(book, day, row) for day, row in enumerate(plan)))
        self.assertIsNone(reason_of(book, case_of(book, plan)))
        self.assertEqual(cost(book, case_of(book, plan)), least)
        self.assertEqual(sum(row[-1] for row in bill(book, case_of(book, plan))), least)
        return word

    def test_many_books(self):
        seen = [
            self.assert_cheapest(random_book(seed, 1 + seed % 4, 1 + seed % 3, seed % 4, seed % 5, most=20))
            for seed in range(150)
        ]
        self.assertEqual(set(seen), {"cheapest", "none"})

    def test_a_book_without_scenes(self):
        self.assertEqual(cheapest(plain(0, 3)), ("cheapest", 0, ((), (), ()), ((), (((), ("bound", 0)),))))

    def test_rows_are_such_that_they_fit(self):
        # Moon behind sun, wherever they stand in the book.
        scenes = [("a", "attic", 4, "moon", ()), ("b", "attic", 5, "sun", ())]
        book = book_of(9, 0, [(9, 5), (9, 5)], [("attic", 0, ())], [], scenes)
        word, sum_told, plan, _ = cheapest(book)
        self.assertEqual((word, sum_told), ("cheapest", 9))
        self.assertIn(plan, ((("b", "a"), ()), ((), ("b", "a"))))

    def test_none(self):
        for book in (plain(1, 3, lengths=10), plain(3, 2, lengths=5), plain(6, 1), plain(2, 2, shut=(0, 1))):
            self.assertEqual(self.assert_cheapest(book), "none")

    def test_the_widest_that_is_told_and_the_first_that_is_not(self):
        self.assertEqual(self.assert_cheapest(plain(6, 3, lengths=3)), "cheapest")
        self.assertEqual(cheapest(plain(6, 3, lengths=3))[1], 16)
        # Fifteen hours: two days are due, but only one rent.
        self.assertEqual(cheapest(plain(5, 4, lengths=3)), ("between", 13, 16))

    def test_between_with_a_first_fit(self):
        for scenes, days, lengths, told in (
            (8, 8, 1, ("between", 5 + 3, 16)),
            (8, 8, 9, ("between", 40 + 3, 64)),
            (5, 5, 5, ("between", 15 + 3, 40)),
            (7, 3, 2, ("between", 10 + 3, 16)),
        ):
            with self.subTest(told=told):
                self.assertEqual(cheapest(plain(scenes, days, lengths)), told)

    def test_between_without_a_first_fit(self):
        self.assertEqual(cheapest(plain(5, 4, lengths=10)), ("between", 20 + 3, None))
        self.assertEqual(cheapest(plain(8, 8, shut=tuple(range(8)))), ("between", 5 + 3, None))
        # There is a plan, but the first fit doesn't find it.
        days = [(6, 6), (5, 5), (0, 0), (0, 0)]
        scenes = [(name, "attic", length, "any", ()) for name, length in zip("abcde", (1, 2, 2, 3, 3))]
        book = book_of(5, 1, days, [("attic", 3, ())], [], scenes)
        self.assertIsNone(first_fit(book))
        self.assertIsNotNone(least_cost(book, full_cases(no_case(book), (0, 1))))
        self.assertEqual(cheapest(book), ("between", 13, None))

    def test_many_books_that_are_too_wide(self):
        seen = {}
        for seed in range(60):
            book = random_book(seed, days=4 + seed % 5, places=3, players=1 + seed % 3, scenes=5 + seed % 4, most=30)
            told = cheapest(book)
            word, low, high = told
            self.assertEqual(word, "between")
            self.assertEqual(low, bound_in(book, no_case(book)))
            self.assertEqual(low, bound(book, no_case(book)))
            case = first_fit(book)
            seen[case is None] = True
            if case is None:
                self.assertIsNone(high)
            else:
                self.assertEqual(high, cost_in(book, case))
                self.assertLessEqual(low, high)
            self.assertEqual(cheapest(book), told)
        self.assertEqual(set(seen), {False, True})

    def test_days_of_the_greatest_hours(self):
        most = 10 ** 12 - 1
        rows = [(name, "attic", most, "any", ()) for name in "ab"]
        book = book_of(5, most, [(most, 0)] * 2, [("attic", 3, ())], [], rows)
        self.assertEqual(cheapest(book)[:2], ("cheapest", 16))

    def test_the_book_stays(self):
        book = plain(4, 3, lengths=4)
        cheapest(book)
        self.assertEqual(book, plain(4, 3, lengths=4))


if __name__ == "__main__":
    unittest.main()
