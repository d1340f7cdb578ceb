import unittest

from shootdays.books import book_of
from shootdays.bounds import bound, missing
from shootdays.cases import no_case
from shootdays.cheapest import cheapest
from shootdays.costs import cost, pay_of, rent_of
from shootdays.rules import blocked
from shootdays.turned import turned_book, turned_case
from tests.helper import all_cases, full_cases, kinds_in, least_cost, random_book, random_case

BOOK = book_of(
    9, 2, [(10, 6), (0, 0), (12, 12), (7, 1)], [("attic", 4, (0, 1)), ("wood", 5, ()), ("yard", 0, (0, 1, 2, 3))],
    [("ada", 9, 3, 2, (1,)), ("bo", 4, 4, 8, (0, 3)), ("cy", 1, 0, 1, ())],
    [("open", "attic", 3, "sun", ("bo", "ada")), ("end", "wood", 2, "any", ())],
)


class TurnedBookTest(unittest.TestCase):
    def test_days_shut_and_away(self):
        self.assertEqual(turned_book(BOOK), (
            9, 2, ((7, 1), (12, 12), (0, 0), (10, 6)),
            (("attic", 4, (2, 3)), ("wood", 5, ()), ("yard", 0, (0, 1, 2, 3))),
            (("ada", 9, 3, 2, (2,)), ("bo", 4, 4, 8, (0, 3)), ("cy", 1, 0, 1, ())),
            (("open", "attic", 3, "sun", ("bo", "ada")), ("end", "wood", 2, "any", ())),
        ))

    def test_one_day(self):
        book = book_of(9, 2, [(10, 6)], [("attic", 4, (0,))], [("ada", 9, 3, 2, (0,))], [])
        self.assertEqual(turned_book(book), book)

    def test_it_is_a_book_and_turned_twice_as_it_was(self):
        for seed in range(100):
            book = random_book(seed, days=1 + seed % 8, places=1 + seed % 6, players=seed % 7, scenes=seed % 9)
            before = repr(book)
            told = turned_book(book)
            self.assertEqual(book_of(*told), told)
            self.assertEqual(turned_book(told), book)
            self.assertEqual(told[2], tuple(reversed(book[2])))
            self.assertEqual(kinds_in(told) - {int, str}, {tuple})
            self.assertEqual(repr(book), before)


class TurnedCaseTest(unittest.TestCase):
    def test_each_day(self):
        self.assertEqual(turned_case(BOOK, (0, None)), (3, None))
        self.assertEqual(turned_case(BOOK, (1, 2)), (2, 1))
        self.assertEqual(turned_case(BOOK, (3, 3)), (0, 0))
        self.assertEqual(turned_case(BOOK, (None, None)), (None, None))
        self.assertEqual(turned_case(book_of(1, 1, [(9, 9)], [], [], []), ()), ())

    def test_turned_twice_is_as_it_was(self):
        for seed in range(100):
            book = random_book(seed, days=1 + seed % 8, scenes=seed % 9)
            case = random_case(book, seed)
            told = turned_case(book, case)
            self.assertIs(type(told), tuple)
            self.assertEqual(turned_case(turned_book(book), told), case)
            for day, turned in zip(case, told):
                self.assertEqual(None if day is None else day + turned, None if day is None else len(book[2]) - 1)


class SameTest(unittest.TestCase):
    def test_costs_bounds_missing_ones_and_whether_it_is_blocked(self):
        seen = {True: 0, False: 0}
        for seed in range(12):
            book = random_book(seed, days=3, places=2, players=3, scenes=4, most=16)
            other = turned_book(book)
            for case in all_cases(book):
                turned = turned_case(book, case)
                self.assertEqual(cost(other, turned), cost(book, case))
                self.assertEqual(bound(other, turned), bound(book, case))
                self.assertEqual(missing(other, turned), missing(book, case))
                free = blocked(book, case) is None
                self.assertEqual(blocked(other, turned) is None, free)
                seen[free] += 1
        self.assertGreater(min(seen.values()), 100)

    def test_more_days(self):
        for seed in range(100):
            book = random_book(seed, days=1 + seed % 8, places=3, players=4, scenes=5, most=16)
            case = random_case(book, seed)
            other, turned = turned_book(book), turned_case(book, case)
            self.assertEqual(cost(other, turned), cost(book, case))
            self.assertEqual(bound(other, turned), bound(book, case))
            self.assertEqual(missing(other, turned), missing(book, case))
            self.assertEqual(blocked(other, turned) is None, blocked(book, case) is None)
            for player in [row[0] for row in book[4]]:
                paid, told = pay_of(book, case, player), pay_of(other, turned, player)
                self.assertEqual(told and told[2:], paid and paid[2:])
            for place in [row[0] for row in book[3]]:
                self.assertEqual(rent_of(other, turned, place), rent_of(book, case, place))

    def test_the_cheapest_plan_costs_as_much(self):
        seen = {}
        for seed in range(60):
            book = random_book(seed, days=1 + seed % 3, places=2, players=2, scenes=seed % 5, most=18)
            told, other = cheapest(book), cheapest(turned_book(book))
            self.assertEqual(other[0], told[0])
            seen[told[0]] = True
            if told[0] == "cheapest":
                self.assertEqual(other[1], told[1])
                self.assertEqual(other[1], least_cost(book, full_cases(no_case(book), range(len(book[2])))))
        self.assertEqual(set(seen), {"cheapest", "none"})


if __name__ == "__main__":
    unittest.main()
