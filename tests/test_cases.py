import itertools
import unittest

from shootdays.books import book_of
from shootdays.cases import called, laid, no_case, not_laid, on_day
from tests.helper import all_cases, random_book

BOOK = book_of(
    10, 1, [(9, 9)] * 4, [("attic", 1, ())],
    [("ada", 5, 1, 2, ()), ("bo", 5, 1, 2, ()), ("cy", 5, 1, 2, ())],
    [
        ("open", "attic", 1, "any", ("ada",)),
        ("chase", "attic", 1, "any", ("bo", "ada")),
        ("end", "attic", 1, "any", ()),
        ("any", "attic", 1, "any", ("bo",)),
        ("ada", "attic", 1, "any", ("ada",)),
    ],
)
BARE = book_of(10, 1, [(9, 9)], [], [], [])


class EmptyTest(unittest.TestCase):
    def test_the_empty_case(self):
        self.assertEqual(no_case(BOOK), (None,) * 5)
        self.assertIs(type(no_case(BOOK)), tuple)
        self.assertEqual(no_case(BARE), ())
        for many in range(9):
            self.assertEqual(no_case(random_book(1, scenes=many)), (None,) * many)

    def test_nothing_is_on_its_days_and_nobody_called(self):
        for day in range(4):
            self.assertEqual(on_day(BOOK, no_case(BOOK), day), ())
        for player in ("ada", "bo", "cy"):
            self.assertEqual(called(BOOK, no_case(BOOK), player), ())
        self.assertEqual(on_day(BARE, no_case(BARE), 0), ())


class LaidTest(unittest.TestCase):
    def test_each_scene_on_each_day(self):
        for scene, day in itertools.product(range(5), range(4)):
            case = laid(no_case(BOOK), scene, day)
            wanted = [None] * 5
            wanted[scene] = day
            self.assertEqual(case, tuple(wanted))
            self.assertIs(type(case), tuple)

    def test_laid_one_behind_the_other(self):
        case = no_case(BOOK)
        for scene, day in ((3, 1), (0, 1), (4, 0), (1, 3), (2, 2)):
            case = laid(case, scene, day)
        self.assertEqual(case, (1, 3, 2, 1, 0))

    def test_laid_again(self):
        case = (1, None, 2, 0, None)
        self.assertEqual(laid(case, 0, 3), (3, None, 2, 0, None))
        self.assertEqual(laid(case, 3, 1), (1, None, 2, 1, None))
        self.assertEqual(laid(case, 2, 2), case)

    def test_the_case_ahead_stays(self):
        case = (1, None, 2, 0, None)
        laid(case, 1, 3)
        laid(case, 0, 0)
        self.assertEqual(case, (1, None, 2, 0, None))


class NotLaidTest(unittest.TestCase):
    def test_the_numbers_of_scenes_without_a_day(self):
        self.assertEqual(not_laid(no_case(BOOK)), (0, 1, 2, 3, 4))
        self.assertEqual(not_laid((0, None, 3, 0, None)), (1, 4))
        self.assertEqual(not_laid((0, 0, 0, 0, 0)), ())
        self.assertEqual(not_laid(()), ())


class OnDayTest(unittest.TestCase):
    def test_in_the_books_order(self):
        case = (2, 0, 2, None, 2)
        self.assertEqual(on_day(BOOK, case, 0), ("chase",))
        self.assertEqual(on_day(BOOK, case, 1), ())
        self.assertEqual(on_day(BOOK, case, 2), ("open", "end", "ada"))
        self.assertEqual(on_day(BOOK, case, 3), ())
        self.assertIs(type(on_day(BOOK, case, 2)), tuple)

    def test_all_on_one_day(self):
        self.assertEqual(on_day(BOOK, (3,) * 5, 3), ("open", "chase", "end", "any", "ada"))

    def test_every_case_of_a_book(self):
        book = random_book(4, days=2, scenes=4)
        for case in all_cases(book):
            for day in range(2):
                wanted = [scene[0] for at, scene in enumerate(book[5]) if case[at] is not None and case[at] == day]
                self.assertEqual(on_day(book, case, day), tuple(wanted))


class CalledTest(unittest.TestCase):
    def test_rising_and_each_day_once(self):
        self.assertEqual(called(BOOK, (3, 1, 2, 0, 0), "ada"), (0, 1, 3))
        self.assertEqual(called(BOOK, (3, 1, 2, 0, 0), "bo"), (0, 1))
        self.assertEqual(called(BOOK, (2, 2, 0, 2, 2), "ada"), (2,))
        self.assertEqual(called(BOOK, (2, 2, 0, 2, 2), "bo"), (2,))
        self.assertIs(type(called(BOOK, (3, 1, 2, 0, 0), "ada")), tuple)

    def test_scenes_that_are_not_laid_do_not_count(self):
        self.assertEqual(called(BOOK, (None, 0, 1, None, None), "ada"), (0,))
        self.assertEqual(called(BOOK, (3, None, 1, None, None), "bo"), ())

    def test_a_player_without_scenes_is_never_called(self):
        self.assertEqual(called(BOOK, (0, 1, 2, 3, 0), "cy"), ())

    def test_every_case_of_a_book(self):
        book = random_book(4, days=3, players=3, scenes=4)
        for case in all_cases(book):
            for player in ("ada", "bo", "cy"):
                days = {day for day, scene in zip(case, book[5]) if day is not None and player in scene[4]}
                self.assertEqual(called(book, case, player), tuple(sorted(days)))

    def test_the_same_asked_again_is_told_the_same(self):
        case = (3, 1, 2, 0, 0)
        self.assertEqual(called(BOOK, case, "ada"), called(BOOK, case, "ada"))
        self.assertEqual(on_day(BOOK, case, 0), on_day(BOOK, case, 0))
        self.assertEqual(case, (3, 1, 2, 0, 0))


if __name__ == "__main__":
    unittest.main()
