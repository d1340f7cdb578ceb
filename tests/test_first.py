import unittest

from shootdays.books import book_of
from shootdays.cases import laid, no_case
from shootdays.first import first_fit
from shootdays.rules import blocked
from tests.helper import random_book, reason_of


def made(days=((9, 9),) * 3, places=(("attic", 0, ()),), players=(), scenes=(), move=0):
    return book_of(0, move, days, places, players, scenes)


def scene(name, cast=(), place="attic", length=1, word="any"):
    return (name, place, length, word, cast)


def by_words(book):
    """The first fit by the document's words."""
    case = no_case(book)
    for at in range(len(book[5])):
        free = [day for day in range(len(book[2])) if reason_of(book, laid(case, at, day)) is None]
        if not free:
            return None
        case = laid(case, at, free[0])
    return case


class FirstFitTest(unittest.TestCase):
    def test_a_book_without_scenes(self):
        self.assertEqual(first_fit(made()), ())
        self.assertEqual(first_fit(made(days=[(0, 0)], places=[])), ())

    def test_all_on_the_first_day_where_they_fit(self):
        self.assertEqual(first_fit(made(scenes=[scene("a"), scene("b"), scene("c")])), (0, 0, 0))
        self.assertEqual(first_fit(made(days=[(5, 5)] * 2, scenes=[scene(name) for name in "abcde"])), (0,) * 5)

    def test_the_first_day_is_shut(self):
        places = [("attic", 0, (0, 2)), ("wood", 0, (0, 1))]
        self.assertEqual(first_fit(made(places=places, scenes=[scene("a"), scene("b", (), "wood")])), (1, 2))

    def test_a_player_is_away_on_the_first_day(self):
        players = [("ada", 0, 0, 8, (0,)), ("bo", 0, 0, 8, (0, 1))]
        scenes = [scene("a"), scene("b", ("ada",)), scene("c", ("ada", "bo"))]
        self.assertEqual(first_fit(made(players=players, scenes=scenes)), (0, 1, 2))

    def test_the_first_day_is_full(self):
        scenes = [scene("a", length=4), scene("b", length=6), scene("c", length=5), scene("d", length=3)]
        self.assertEqual(first_fit(made(scenes=scenes)), (0, 1, 0, 1))
        # A sixth scene never fits, however short.
        self.assertEqual(first_fit(made(scenes=[scene(name) for name in "abcdef"])), (0,) * 5 + (1,))
        # By light, and by none.
        days = [(9, 0), (9, 9), (9, 4)]
        self.assertEqual(first_fit(made(days=days, scenes=[scene("a", word="sun"), scene("b", word="moon")])), (1, 0))
        # By the move between two places.
        scenes = [scene("a", length=4), scene("b", (), "wood", 4), scene("c", length=5)]
        self.assertEqual(first_fit(made(places=[("attic", 0, ()), ("wood", 0, ())], scenes=scenes, move=2)), (0, 1, 0))

    def test_a_player_is_tired_on_the_first_free_day(self):
        players = [("ada", 0, 0, 1, ())]
        scenes = [scene("a", ("ada",), length=9), scene("b", ("ada",), length=9)]
        self.assertEqual(first_fit(made(players=players, scenes=scenes)), (0, 2))
        # With a run of two he goes on.
        self.assertEqual(first_fit(made(players=[("ada", 0, 0, 2, ())], scenes=scenes)), (0, 1))

    def test_a_break_is_passed_over(self):
        self.assertEqual(first_fit(made(days=[(0, 0), (9, 9)], scenes=[scene("a")])), (1,))

    def test_none_where_a_scene_has_no_day(self):
        for book in (
            made(places=[("attic", 0, (0, 1, 2))], scenes=[scene("a")]),
            made(players=[("ada", 0, 0, 8, (0, 1, 2))], scenes=[scene("a"), scene("b", ("ada",))]),
            made(scenes=[scene("a"), scene("b", length=10)]),
            made(days=[(0, 0)], scenes=[scene("a")]),
            made(days=[(9, 9)] * 2, players=[("ada", 0, 0, 1, ())],
                 scenes=[scene("a", ("ada",), length=9), scene("b", ("ada",), length=9)]),
        ):
            self.assertIsNone(first_fit(book))

    def test_nothing_laid_is_moved_for_a_later_scene(self):
        # Both fit on two days, but the first one takes the only day that the other one could have.
        days = [(9, 9), (5, 5)]
        self.assertEqual(first_fit(made(days=days, scenes=[scene("b", length=9), scene("a", length=5)])), (0, 1))
        self.assertIsNone(first_fit(made(days=days, scenes=[scene("a", length=5), scene("b", length=9)])))

    def test_the_cost_does_not_count(self):
        book = book_of(5, 0, [(1, 1), (9, 9)], [("attic", 7, ())], [], [scene("a"), scene("b")])
        self.assertEqual(first_fit(book), (0, 1))

    def test_many_books_by_the_documents_words(self):
        seen = {}
        for seed in range(300):
            book = random_book(seed, days=1 + seed % 4, places=1 + seed % 3, players=seed % 4, scenes=seed % 6, most=16)
            told = first_fit(book)
            self.assertEqual(told, by_words(book))
            seen[told is None] = True
            if told is not None:
                self.assertIs(type(told), tuple)
                self.assertIsNone(blocked(book, told))
            self.assertEqual(first_fit(book), told)
        self.assertEqual(set(seen), {False, True})


if __name__ == "__main__":
    unittest.main()
