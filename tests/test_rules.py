import itertools
import unittest

from shootdays.books import book_of
from shootdays.cases import laid, no_case
from shootdays.rules import Away, Full, Rule, Shut, Tired, blocked, rules
from tests.helper import all_cases, random_book, random_case, reasons

CLASSES = [Shut, Away, Full, Tired]


def made(days=((9, 9),) * 4, places=(("attic", 0, ()), ("harbour", 0, ())), players=(), scenes=(), move=0):
    return book_of(0, move, days, places, players, scenes)


def scene(name, cast=(), place="attic", length=1, word="any"):
    return (name, place, length, word, cast)


class FormTest(unittest.TestCase):
    def test_a_rule_by_itself(self):
        self.assertEqual(Rule().word(), "none")
        book = made(places=[("attic", 0, (0,))], scenes=[scene("a", length=99)])
        for case in ((None,), (0,), (1,)):
            self.assertIsNone(Rule().broken(book, case))

    def test_the_words(self):
        self.assertEqual([rule.word() for rule in rules()], ["shut", "away", "full", "tired"])
        self.assertEqual([made().word() for made in CLASSES], ["shut", "away", "full", "tired"])

    def test_the_classes_stand_under_rule_and_not_under_another(self):
        for one in CLASSES:
            self.assertTrue(issubclass(one, Rule))
            for other in CLASSES:
                self.assertEqual(issubclass(one, other), one is other)

    def test_the_methods_stand_in_each_class_itself(self):
        for one in (Rule, *CLASSES):
            self.assertIn("word", vars(one))
            self.assertIn("broken", vars(one))

    def test_the_list_of_rules(self):
        told = rules()
        self.assertIs(type(told), list)
        self.assertEqual([type(rule) for rule in told], CLASSES)

    def test_the_list_is_new_each_time(self):
        told = rules()
        self.assertIsNot(told, rules())
        told.reverse()
        told.clear()
        self.assertEqual([type(rule) for rule in rules()], CLASSES)
        book = made(places=[("attic", 0, (0,))], scenes=[scene("a")])
        self.assertEqual(blocked(book, (0,)), ("shut", "a", 0))


class ShutTest(unittest.TestCase):
    BOOK = made(
        places=[("attic", 0, (1, 2)), ("harbour", 0, ()), ("wood", 0, (0,))],
        scenes=[scene("a"), scene("b", place="harbour"), scene("c", place="wood"), scene("d")],
    )

    def test_the_first_scene_in_the_books_order(self):
        for case, told in (
            ((None, None, None, None), None),
            ((0, 1, 1, 3), None),
            ((3, 0, 2, 0), None),
            ((1, None, None, None), ("shut", "a", 1)),
            ((2, None, None, 1), ("shut", "a", 2)),
            ((0, 2, 0, 1), ("shut", "c", 0)),
            ((None, 2, None, 1), ("shut", "d", 1)),
            ((None, 1, 3, 2), ("shut", "d", 2)),
            ((2, 0, 0, 1), ("shut", "a", 2)),
        ):
            with self.subTest(case=case):
                self.assertEqual(Shut().broken(self.BOOK, case), told)
                self.assertEqual(blocked(self.BOOK, case), told)


class AwayTest(unittest.TestCase):
    BOOK = made(
        players=[("cy", 0, 0, 8, ()), ("ada", 0, 0, 8, (1, 3)), ("bo", 0, 0, 8, (0, 1))],
        scenes=[scene("a", ("bo", "ada")), scene("b", ("cy",)), scene("c", ("ada",)), scene("d", ("bo",)), scene("e")],
    )

    def test_the_first_player_and_his_first_day(self):
        for case, told in (
            ((None,) * 5, None),
            ((2, 1, 0, 3, 1), None),
            ((2, 0, 2, 2, 0), None),
            ((None, None, 3, None, None), ("away", "ada", 3)),
            ((3, None, 1, None, None), ("away", "ada", 1)),
            ((1, None, 3, None, None), ("away", "ada", 1)),
            ((0, None, None, None, None), ("away", "bo", 0)),
            ((0, None, 3, 0, None), ("away", "ada", 3)),
            ((1, None, None, 0, None), ("away", "ada", 1)),
            ((0, None, 0, 1, None), ("away", "bo", 0)),
            ((2, 3, 0, 1, 1), ("away", "bo", 1)),
        ):
            with self.subTest(case=case):
                self.assertEqual(Away().broken(self.BOOK, case), told)
                self.assertEqual(blocked(self.BOOK, case), told)


class FullTest(unittest.TestCase):
    def test_five_and_six_scenes_on_a_day(self):
        book = made(scenes=[scene(name) for name in "abcdefgh"])
        self.assertIsNone(Full().broken(book, (2,) * 5 + (None,) * 3))
        self.assertIsNone(Full().broken(book, (2,) * 5 + (1,) * 3))
        self.assertEqual(Full().broken(book, (2,) * 6 + (None,) * 2), ("full", 2))
        self.assertEqual(Full().broken(book, (3,) + (0,) * 6 + (1,)), ("full", 0))
        self.assertEqual(Full().broken(book, (1,) * 8), ("full", 1))

    def test_the_first_day_that_is_full(self):
        book = made(days=[(3, 0), (2, 2), (0, 0), (9, 1)], scenes=[scene(name, length=2) for name in "abc"])
        for case, told in (
            ((0, 1, 3), None), ((0, 3, 3), None), ((3, 3, 3), None), ((0, 0, 3), ("full", 0)), ((1, 1, 2), ("full", 1)),
            ((2, 1, 1), ("full", 1)), ((2, 1, 0), ("full", 2)), ((None, None, 2), ("full", 2)), ((0, 0, 2), ("full", 0)),
        ):
            with self.subTest(case=case):
                self.assertEqual(Full().broken(book, case), told)
                self.assertEqual(blocked(book, case), told)

    def test_some_row_that_fits_is_enough(self):
        scenes = [scene("a", word="moon"), scene("b", word="sun", length=3), scene("c", place="harbour")]
        book = made(days=[(9, 3), (9, 2), (6, 3), (5, 3)], scenes=scenes, move=1)
        self.assertIsNone(Full().broken(book, (0, 0, 0)))
        self.assertEqual(Full().broken(book, (1, 1, 1)), ("full", 1))
        self.assertIsNone(Full().broken(book, (2, 2, 2)))
        self.assertEqual(Full().broken(book, (3, 3, 3)), ("full", 3))
        self.assertIsNone(Full().broken(book, (3, 3, None)))


class TiredTest(unittest.TestCase):
    def made(self, run, many=5, days=6):
        players = [("bo", 0, 0, run, ()), ("ada", 0, 0, run, ())]
        return made(days=((9, 9),) * days, players=players, scenes=[scene(name, ("ada",)) for name in "abcdefgh"[:many]])

    def test_a_run_just_kept_and_overstepped_by_one(self):
        for run in range(1, 8):
            book = self.made(run, 8, 8)
            for first in range(8 - run):
                kept = tuple(range(first, first + run)) + (None,) * (8 - run)
                self.assertIsNone(Tired().broken(book, kept))
                over = tuple(range(first, first + run + 1)) + (None,) * (7 - run)
                self.assertEqual(Tired().broken(book, over), ("tired", "ada", first + run))
                self.assertEqual(blocked(book, over), ("tired", "ada", first + run))
        self.assertIsNone(Tired().broken(self.made(8, 8, 8), tuple(range(8))))

    def test_the_first_day_by_which_he_is(self):
        book = self.made(2)
        for case, told in (
            ((0, 1, 2, 3, 4), ("tired", "ada", 2)),
            ((0, 1, 3, 4, 5), ("tired", "ada", 5)),
            ((5, 4, 3, 1, 0), ("tired", "ada", 5)),
            ((4, 2, 3, 5, 0), ("tired", "ada", 4)),
            ((0, 1, 3, 4, None), None),
            ((0, 2, 4, None, None), None),
            ((0, 0, 1, 1, 0), None),
            ((0, 1, 3, 3, 5), None),
        ):
            with self.subTest(case=case):
                self.assertEqual(Tired().broken(book, case), told)
                self.assertEqual(blocked(book, case), told)

    def test_several_scenes_on_a_day_count_once(self):
        self.assertIsNone(Tired().broken(self.made(1), (0, 0, 2, 2, 4)))
        self.assertEqual(Tired().broken(self.made(1), (0, 0, 2, 1, 4)), ("tired", "ada", 1))

    def test_the_first_player_in_the_books_order(self):
        book = made(
            players=[("ada", 0, 0, 2, ()), ("bo", 0, 0, 1, ())],
            scenes=[scene("a", ("bo", "ada")), scene("b", ("bo", "ada")), scene("c", ("ada",)), scene("d", ("bo",))],
        )
        self.assertEqual(Tired().broken(book, (0, 1, 3, None)), ("tired", "bo", 1))
        self.assertEqual(Tired().broken(book, (0, 1, 2, 3)), ("tired", "ada", 2))
        self.assertEqual(Tired().broken(book, (2, 3, 1, 0)), ("tired", "ada", 3))
        self.assertIsNone(Tired().broken(book, (0, 2, 3, None)))

    def test_a_break_between_parts_the_days(self):
        book = made(
            days=[(9, 9), (0, 0), (9, 9)], players=[("ada", 0, 0, 1, ())], scenes=[scene(name, ("ada",)) for name in "ab"]
        )
        self.assertIsNone(Tired().broken(book, (0, 2)))
        self.assertIsNone(blocked(book, (0, 2)))


class BlockedTest(unittest.TestCase):
    def test_the_empty_case_is_never_blocked(self):
        for seed in range(30):
            book = random_book(seed, days=1 + seed % 8, scenes=seed % 9)
            self.assertIsNone(blocked(book, no_case(book)))
            for rule in rules():
                self.assertIsNone(rule.broken(book, no_case(book)))

    def test_two_and_more_rules_at_once(self):
        book = made(
            days=[(1, 1), (1, 1), (1, 1)], places=[("attic", 0, (0,)), ("wood", 0, ())],
            players=[("ada", 0, 0, 1, (1,))],
            scenes=[scene("a"), scene("b", ("ada",), "wood"), scene("c", ("ada",), "wood"), scene("d", (), "wood")],
        )
        for case, told in (
            ((0, 0, 1, 0), ("shut", "a", 0)),
            ((2, 0, 1, 2), ("away", "ada", 1)),
            ((0, None, None, 0), ("shut", "a", 0)),
            ((2, 0, None, 0), ("full", 0)),
            ((1, 0, 1, 1), ("away", "ada", 1)),
            ((None, 2, 1, None), ("away", "ada", 1)),
        ):
            with self.subTest(case=case):
                self.assertEqual(blocked(book, case), told)
        tired = made(days=[(1, 1), (1, 1), (1, 1)], players=[("ada", 0, 0, 1, ())],
                     scenes=[scene("a", ("ada",)), scene("b", ("ada",)), scene("c")])
        self.assertEqual(blocked(tired, (0, 1, 1)), ("full", 1))
        self.assertEqual(blocked(tired, (0, 1, 2)), ("tired", "ada", 1))

    def test_many_books_by_the_documents_words(self):
        seen = {}
        for seed in range(300):
            book = random_book(seed, days=1 + seed % 5, places=1 + seed % 3, players=seed % 4, scenes=2 + seed % 4)
            for turn in range(6):
                case = random_case(book, seed * 10 + turn)
                wanted = reasons(book, case)
                told = [rule.broken(book, case) for rule in rules()]
                self.assertEqual(told, wanted)
                self.assertEqual(blocked(book, case), next((reason for reason in wanted if reason), None))
                for reason in told:
                    self.assertIn(type(reason), (tuple, type(None)))
                seen[tuple(reason is not None for reason in wanted)] = True
        self.assertGreaterEqual(len(seen), 10)
        self.assertIn((False,) * 4, seen)

    def test_a_case_that_is_blocked_stays_so_with_a_scene_more(self):
        for seed in range(8):
            book = random_book(seed, days=3, players=3, scenes=4)
            for case in all_cases(book):
                if blocked(book, case) is None:
                    continue
                for at, day in itertools.product(range(4), range(3)):
                    if case[at] is None:
                        self.assertIsNotNone(blocked(book, laid(case, at, day)))

    def test_the_same_asked_again_is_told_the_same(self):
        book = random_book(3, days=3, players=3, scenes=4)
        for case in all_cases(book):
            self.assertEqual(blocked(book, case), blocked(book, case))


if __name__ == "__main__":
    unittest.main()
