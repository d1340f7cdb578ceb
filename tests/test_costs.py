import unittest

from shootdays.books import book_of
from shootdays.cases import laid, no_case
from shootdays.costs import bill, cost, pay_of, rent_of
from tests.helper import all_cases, random_book, random_case

BOOK = book_of(
    100, 1, [(9, 9), (9, 9), (0, 0), (9, 9), (9, 9)],
    [("attic", 7, (0,)), ("harbour", 20, ()), ("wood", 0, ())],
    [("ada", 10, 3, 1, (0,)), ("bo", 50, 50, 8, ()), ("cy", 4, 0, 2, ())],
    [
        ("open", "attic", 1, "any", ("ada",)),
        ("chase", "attic", 1, "any", ("bo", "ada")),
        ("end", "harbour", 1, "any", ("ada",)),
        ("kiss", "attic", 1, "any", ("bo",)),
        ("duel", "wood", 1, "any", ()),
    ],
)
EMPTY = (None,) * 5


class PayTest(unittest.TestCase):
    def assert_paid(self, case, player, told):
        with self.subTest(case=case, player=player):
            self.assertEqual(pay_of(BOOK, case, player), told)
            if told is not None:
                self.assertIs(type(pay_of(BOOK, case, player)), tuple)

    def test_a_player_who_is_not_called(self):
        for player in ("ada", "bo", "cy"):
            self.assert_paid(EMPTY, player, None)
        self.assert_paid((None, None, None, 1, 0), "ada", None)
        self.assert_paid((0, 1, 3, 4, 0), "cy", None)

    def test_one_day(self):
        for day in range(5):
            self.assert_paid((day, None, None, None, None), "ada", (day, day, 1, 0, 10))
            self.assert_paid((day, day, day, day, day), "ada", (day, day, 1, 0, 10))
            self.assert_paid((day, day, day, day, day), "bo", (day, day, 1, 0, 50))

    def test_days_in_a_row(self):
        self.assert_paid((0, 1, None, None, None), "ada", (0, 1, 2, 0, 20))
        self.assert_paid((3, 4, 3, None, None), "ada", (3, 4, 2, 0, 20))
        self.assert_paid((2, 1, 0, None, None), "ada", (0, 2, 3, 0, 30))

    def test_days_between_are_held(self):
        # Day 2 is a break; on day 1 or 3 others are shot, or nothing is.
        self.assert_paid((1, 3, None, None, None), "ada", (1, 3, 2, 1, 23))
        self.assert_paid((4, None, 0, 1, 3), "ada", (0, 4, 2, 3, 29))
        self.assert_paid((4, None, 0, None, None), "ada", (0, 4, 2, 3, 29))
        self.assert_paid((4, 3, 0, None, None), "ada", (0, 4, 3, 2, 36))
        self.assert_paid((None, 0, None, 4, None), "bo", (0, 4, 2, 3, 250))

    def test_days_ahead_and_behind_are_not_paid(self):
        self.assert_paid((1, 3, 1, 0, 4), "ada", (1, 3, 2, 1, 23))
        self.assert_paid((1, 3, 1, 0, 4), "bo", (0, 3, 2, 2, 200))

    def test_rules_do_not_count(self):
        # ada is away on day 0 and may be called on one day in a row.
        self.assert_paid((0, 1, None, None, None), "ada", (0, 1, 2, 0, 20))

    def test_money_of_sixty_figures(self):
        most = 10 ** 60 - 1
        book = book_of(most, 0, [(9, 9)] * 8, [("p", most, ())], [("ada", most, most - 1, 8, ())],
                       [(name, "p", 1, "any", ("ada",)) for name in "ab"])
        self.assertEqual(pay_of(book, (0, 7), "ada"), (0, 7, 2, 6, 2 * most + 6 * (most - 1)))
        self.assertEqual(rent_of(book, (0, 7), "p"), (2, 2 * most))
        self.assertEqual(bill(book, (0, 7))[0], ("crew", 2, 2 * most))
        self.assertEqual(cost(book, (0, 7)), 12 * most - 6)


class RentTest(unittest.TestCase):
    def test_days_at_a_place(self):
        for case, place, told in (
            (EMPTY, "attic", (0, 0)),
            (EMPTY, "wood", (0, 0)),
            ((1, None, None, None, None), "attic", (1, 7)),
            ((1, 1, 0, 1, 0), "attic", (1, 7)),
            ((1, 4, 0, 1, 0), "attic", (2, 14)),
            ((1, 4, 0, 0, 3), "attic", (3, 21)),
            ((1, 4, 0, 0, 3), "harbour", (1, 20)),
            ((1, 4, None, 0, 3), "harbour", (0, 0)),
            ((1, 4, 0, 0, 3), "wood", (1, 0)),
        ):
            with self.subTest(case=case, place=place):
                self.assertEqual(rent_of(BOOK, case, place), told)
                self.assertIs(type(rent_of(BOOK, case, place)), tuple)


class BillTest(unittest.TestCase):
    def test_the_rows_in_their_order(self):
        self.assertEqual(bill(BOOK, (4, 3, 0, 1, 3)), [
            ("crew", 4, 400), ("place", "attic", 3, 21), ("place", "harbour", 1, 20), ("place", "wood", 1, 0),
            ("player", "ada", 3, 2, 36), ("player", "bo", 2, 1, 150), ("player", "cy", 0, 0, 0),
        ])
        self.assertEqual(bill(BOOK, (None, 1, 1, 4, None)), [
            ("crew", 2, 200), ("place", "attic", 2, 14), ("place", "harbour", 1, 20), ("place", "wood", 0, 0),
            ("player", "ada", 1, 0, 10), ("player", "bo", 2, 2, 200), ("player", "cy", 0, 0, 0),
        ])

    def test_nobody_is_called_by_the_empty_case(self):
        self.assertEqual(bill(BOOK, EMPTY), [
            ("crew", 0, 0), ("place", "attic", 0, 0), ("place", "harbour", 0, 0), ("place", "wood", 0, 0),
            ("player", "ada", 0, 0, 0), ("player", "bo", 0, 0, 0), ("player", "cy", 0, 0, 0),
        ])
        self.assertEqual(cost(BOOK, EMPTY), 0)

    def test_a_book_without_places_players_and_scenes(self):
        book = book_of(100, 1, [(9, 9)], [], [], [])
        self.assertEqual(bill(book, ()), [("crew", 0, 0)])
        self.assertEqual(cost(book, ()), 0)

    def test_the_crew_is_paid_by_days_with_a_scene(self):
        for case, many in ((EMPTY, 0), ((0,) * 5, 1), ((4, 0, 4, 0, None), 2), ((0, 1, 2, 3, 4), 5)):
            self.assertEqual(bill(BOOK, case)[0], ("crew", many, 100 * many))

    def test_the_cost_is_the_sum_of_the_bills_sums(self):
        self.assertEqual(cost(BOOK, (4, 3, 0, 1, 3)), 400 + 21 + 20 + 36 + 150)
        self.assertEqual(cost(BOOK, (1, None, None, None, None)), 100 + 7 + 10)
        self.assertEqual(cost(BOOK, (None, None, None, None, 2)), 100)
        for seed in range(50):
            book = random_book(seed, days=1 + seed % 6, places=3, players=3, scenes=5)
            case = random_case(book, seed)
            self.assertEqual(cost(book, case), sum(row[-1] for row in bill(book, case)))

    def test_many_books_by_the_documents_words(self):
        for seed in range(200):
            book = random_book(seed, days=1 + seed % 8, places=1 + seed % 6, players=seed % 7, scenes=seed % 9)
            case = random_case(book, seed)
            lain = [(row, day) for row, day in zip(book[5], case) if day is not None]
            days = {day for _, day in lain}
            wanted = [("crew", len(days), len(days) * book[0])]
            for name, rent, _ in book[3]:
                there = {day for row, day in lain if row[1] == name}
                wanted.append(("place", name, len(there), len(there) * rent))
                self.assertEqual(rent_of(book, case, name), wanted[-1][2:])
            for name, pay, hold, _, _ in book[4]:
                calls = sorted({day for row, day in lain if name in row[4]})
                waits = [day for day in range(8) if calls and calls[0] < day < calls[-1] and day not in calls]
                total = len(calls) * pay + len(waits) * hold
                wanted.append(("player", name, len(calls), len(waits), total))
                told = (calls[0], calls[-1], *wanted[-1][2:]) if calls else None
                self.assertEqual(pay_of(book, case, name), told)
            self.assertEqual(bill(book, case), wanted)
            self.assertEqual(cost(book, case), sum(row[-1] for row in wanted))

    def test_never_less_with_a_scene_more(self):
        for seed in range(6):
            book = random_book(seed, days=3, players=3, scenes=4)
            for case in all_cases(book):
                for at in [at for at, day in enumerate(case) if day is None]:
                    for day in range(3):
                        self.assertGreaterEqual(cost(book, laid(case, at, day)), cost(book, case))

    def test_what_is_told_is_the_askers_own(self):
        case = (4, 3, 0, 1, 3)
        told = bill(BOOK, case)
        self.assertIs(type(told), list)
        for row in told:
            self.assertIs(type(row), tuple)
        wanted = list(told)
        told.reverse()
        told.clear()
        self.assertEqual(bill(BOOK, case), wanted)
        self.assertIsNot(bill(BOOK, case), bill(BOOK, case))
        self.assertEqual(cost(BOOK, no_case(BOOK)), 0)
        self.assertEqual(case, (4, 3, 0, 1, 3))


if __name__ == "__main__":
    unittest.main()
