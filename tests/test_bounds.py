import itertools
import unittest

from shootdays.books import book_of
from shootdays.bounds import bound, days_due, missing
from shootdays.cases import laid, no_case
from shootdays.costs import cost
from shootdays.rules import blocked
from tests.helper import all_cases, random_book, random_case

BOOK = book_of(
    100, 1, [(4, 4), (9, 9), (0, 0), (5, 5)],
    [("attic", 7, ()), ("harbour", 20, ()), ("wood", 3, ())],
    [("ada", 10, 3, 8, ()), ("bo", 50, 40, 8, ()), ("cy", 4, 0, 8, ())],
    [
        ("open", "harbour", 5, "any", ("bo", "ada")),
        ("chase", "attic", 3, "any", ()),
        ("end", "harbour", 2, "any", ("bo",)),
        ("kiss", "attic", 4, "any", ("ada",)),
    ],
)


def due(hours, lengths):
    """The days due of a book of such days and scenes."""
    scenes = [(name, "p", length, "any", ()) for name, length in zip("abcdefgh", lengths)]
    return days_due(book_of(1, 1, [(many, 0) for many in hours], [("p", 1, ())], [], scenes))


class DaysDueTest(unittest.TestCase):
    def test_a_book_without_scenes(self):
        self.assertEqual(due([5], []), 0)
        self.assertEqual(due([0, 0], []), 0)
        self.assertEqual(due([9] * 8, []), 0)

    def test_just_at_an_edge_and_one_beyond(self):
        for lengths, many in (
            ([1], 1), ([8], 1), ([9], 1), ([5, 4], 1), ([10], 2), ([5, 5], 2), ([14], 2), ([9, 5], 2), ([15], 3), ([18], 3),
            ([6, 6, 6], 3), ([19], 4), ([9, 9, 1], 4), ([10 ** 11], 4),
        ):
            with self.subTest(lengths=lengths):
                self.assertEqual(due([4, 9, 0, 5], lengths), many)

    def test_the_greatest_hours_come_first_wherever_they_stand(self):
        for turn in itertools.permutations((1, 2, 3, 10)):
            self.assertEqual(due(turn, [10]), 1)
            self.assertEqual(due(turn, [11]), 2)
            self.assertEqual(due(turn, [5, 8]), 2)
            self.assertEqual(due(turn, [14]), 3)
            self.assertEqual(due(turn, [16]), 4)

    def test_all_days_where_they_do_not_come_to_the_lengths(self):
        self.assertEqual(due([1], [2]), 1)
        self.assertEqual(due([0], [1]), 1)
        self.assertEqual(due([0, 0, 0], [1]), 3)
        self.assertEqual(due([3, 3, 3], [5, 5]), 3)
        self.assertEqual(due([1] * 8, [1] * 8), 8)
        self.assertEqual(due([1] * 8, [2] * 8), 8)

    def test_breaks_count_as_days_only_where_all_do(self):
        self.assertEqual(due([0, 5, 0, 5], [10]), 2)
        self.assertEqual(due([0, 5, 0, 5], [11]), 4)

    def test_light_moves_and_places_do_not_count(self):
        scenes = [("a", "p", 3, "sun", ()), ("b", "q", 3, "moon", ())]
        self.assertEqual(days_due(book_of(1, 99, [(6, 0), (6, 6)], [("p", 1, ()), ("q", 1, ())], [], scenes)), 1)
        # The hours are what counts, not the light.
        self.assertEqual(days_due(book_of(1, 0, [(2, 2), (6, 0)], [("p", 1, ()), ("q", 1, ())], [], scenes)), 1)

    def test_many_books(self):
        for seed in range(200):
            book = random_book(seed, days=1 + seed % 8, scenes=seed % 9, most=9)
            hours = sorted((day[0] for day in book[2]), reverse=True)
            total = sum(row[2] for row in book[5])
            enough = [many for many in range(len(hours) + 1) if sum(hours[:many]) >= total]
            self.assertEqual(days_due(book), enough[0] if enough else len(hours))
            self.assertIs(type(days_due(book)), int)


class MissingTest(unittest.TestCase):
    def test_in_the_books_order(self):
        for case, told in (
            ((None, None, None, None), (("attic", "harbour"), ("ada", "bo"))),
            ((0, None, None, None), (("attic",), ())),
            ((None, 0, None, None), (("harbour",), ("ada", "bo"))),
            ((None, None, 0, None), (("attic",), ("ada",))),
            ((None, None, None, 3), (("harbour",), ("bo",))),
            ((None, 1, None, 3), (("harbour",), ("bo",))),
            ((None, 1, 2, None), ((), ("ada",))),
            ((0, 1, None, None), ((), ())),
            ((0, 0, 0, 0), ((), ())),
        ):
            with self.subTest(case=case):
                found = missing(BOOK, case)
                self.assertEqual(found, told)
                self.assertEqual([type(found), type(found[0]), type(found[1])], [tuple] * 3)

    def test_nothing_is_missing_that_no_scene_has(self):
        self.assertEqual(missing(book_of(1, 1, [(9, 9)], [("p", 1, ())], [("a", 1, 1, 1, ())], []), ()), ((), ()))

    def test_many_books(self):
        for seed in range(200):
            book = random_book(seed, days=3, places=4, players=4, scenes=seed % 6)
            case = random_case(book, seed, 0.4)
            for part, found in zip((book[3], book[4]), missing(book, case)):
                wanted = []
                for name in [row[0] for row in part]:
                    of = [day for row, day in zip(book[5], case) if (row[1] == name if part is book[3] else name in row[4])]
                    if of and all(day is None for day in of):
                        wanted.append(name)
                self.assertEqual(found, tuple(wanted))


class BoundTest(unittest.TestCase):
    def test_the_empty_case(self):
        # Fourteen hours: two days due; both places that scenes have, both such players.
        self.assertEqual(bound(BOOK, (None,) * 4), 200 + 27 + 60)

    def test_some_laid(self):
        # One day of two: one crew more; the attic is missing; the players are both called.
        self.assertEqual(bound(BOOK, (0, None, None, None)), 100 + 20 + 60 + 100 + 7)
        # The harbour and bo are missing.
        self.assertEqual(bound(BOOK, (None, 1, None, 1)), 100 + 7 + 10 + 100 + 20 + 50)
        # As many days as are due, and more: no crew comes to the cost.
        self.assertEqual(bound(BOOK, (None, 1, None, 3)), 200 + 14 + 10 + 20 + 50)
        self.assertEqual(bound(BOOK, (0, 1, 3, None)), cost(BOOK, (0, 1, 3, None)))
        self.assertEqual(bound(BOOK, (None, 1, 0, 3)), cost(BOOK, (None, 1, 0, 3)))

    def test_all_laid(self):
        self.assertEqual(bound(BOOK, (1, 1, 3, 0)), cost(BOOK, (1, 1, 3, 0)))
        # All on one day is blocked, and two days are due.
        self.assertEqual(bound(BOOK, (1, 1, 1, 1)), cost(BOOK, (1, 1, 1, 1)) + 100)

    def test_a_book_without_scenes(self):
        self.assertEqual(bound(book_of(9, 1, [(9, 9)], [("p", 1, ())], [("a", 1, 1, 1, ())], []), ()), 0)

    def test_a_book_whose_days_do_not_come_to_the_lengths(self):
        book = book_of(9, 1, [(1, 1)] * 3, [("p", 1, ())], [], [("a", "p", 5, "any", ())])
        self.assertEqual(bound(book, (None,)), 28)
        self.assertEqual(bound(book, (0,)), 28)

    def test_money_of_sixty_figures(self):
        most = 10 ** 60 - 1
        book = book_of(most, 0, [(5, 5), (5, 5)], [("p", most, ())], [("ada", most, most, 8, ())],
                       [(name, "p", 5, "any", ("ada",)) for name in "ab"])
        self.assertEqual(bound(book, (None, None)), 4 * most)
        self.assertEqual(bound(book, (0, None)), 4 * most)
        self.assertEqual(bound(book, (0, 1)), 6 * most)

    def test_every_case_of_some_books(self):
        full = 0
        for seed in range(30):
            book = random_book(seed, days=3, places=3, players=3, scenes=3, most=20)
            rents = {row[0]: row[1] for row in book[3]}
            pays = {row[0]: row[1] for row in book[4]}
            for case in all_cases(book):
                places, players = missing(book, case)
                days = len({day for day in case if day is not None})
                crew = book[0] * max(days_due(book) - days, 0)
                more = sum(rents[name] for name in places) + sum(pays[name] for name in players)
                self.assertEqual(bound(book, case), cost(book, case) + crew + more)
                if None not in case and blocked(book, case) is None:
                    full += 1
                    self.assertEqual(bound(book, case), cost(book, case))
        self.assertGreater(full, 20)

    def test_never_less_with_a_scene_more(self):
        for seed in range(8):
            book = random_book(seed, days=3, places=3, players=3, scenes=4)
            for case in all_cases(book):
                for at, day in itertools.product(range(4), range(3)):
                    if case[at] is None:
                        self.assertGreaterEqual(bound(book, laid(case, at, day)), bound(book, case))

    def test_the_same_asked_again_is_told_the_same(self):
        book = random_book(5, days=3, places=3, players=3, scenes=4)
        self.assertEqual(bound(book, no_case(book)), bound(book, no_case(book)))
        self.assertEqual(missing(book, no_case(book)), missing(book, no_case(book)))
        self.assertEqual(days_due(book), days_due(book))


if __name__ == "__main__":
    unittest.main()
