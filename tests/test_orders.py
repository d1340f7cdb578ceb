import itertools
import random
import unittest

from shootdays.books import book_of
from shootdays.orders import earliest, ordered
from shootdays.times import slip
from tests.helper import fits, has_slip, hours_of, random_book

PLACES = [("attic", 0, ()), ("harbour", 0, ())]


def made(days, scenes, move=2):
    return book_of(0, move, days, PLACES, [], scenes)


def alike(many, length=1, word="any", place="attic"):
    """So many scenes that differ by their names alone."""
    return [(name, place, length, word, ()) for name in "abcdefgh"[:many]]


def ends_by_all_rows(book, day, names):
    """What point 10 tells, by going through all rows."""
    told = [[None] * len(names) for _ in range(2 ** len(names))]
    for many in range(1, len(names) + 1):
        for row in itertools.permutations(range(len(names)), many):
            turn = [names[at] for at in row]
            if has_slip(book, day, turn):
                continue
            some, end = sum(2 ** at for at in row), hours_of(book, day, turn)[-1][2]
            if told[some][row[-1]] is None or end < told[some][row[-1]]:
                told[some][row[-1]] = end
    return told


class EarliestTest(unittest.TestCase):
    def assert_lists(self, told, many):
        self.assertIs(type(told), list)
        self.assertEqual(len(told), 2 ** many)
        for row in told:
            self.assertIs(type(row), list)
            self.assertEqual(len(row), many)

    def test_no_scenes(self):
        book = made([(10, 6), (0, 0)], alike(2))
        for day in (0, 1):
            self.assertEqual(earliest(book, day, ()), [[]])

    def test_one_scene(self):
        book = made([(10, 6), (3, 0), (2, 2)], [("a", "attic", 3, "sun", ()), ("b", "attic", 3, "moon", ())])
        self.assertEqual(earliest(book, 0, ("a",)), [[None], [3]])
        self.assertEqual(earliest(book, 0, ("b",)), [[None], [9]])
        self.assertEqual(earliest(book, 1, ("a",)), [[None], [None]])
        self.assertEqual(earliest(book, 1, ("b",)), [[None], [3]])
        self.assertEqual(earliest(book, 2, ("b",)), [[None], [None]])

    def test_two_scenes_by_their_bits(self):
        scenes = [("a", "attic", 3, "sun", ()), ("b", "harbour", 4, "moon", ())]
        book = made([(12, 6)], scenes)
        # Only the sun scene ahead of the moon scene has no slip.
        self.assertEqual(earliest(book, 0, ("a", "b")), [[None, None], [3, None], [None, 10], [None, 10]])
        self.assertEqual(earliest(book, 0, ("b", "a")), [[None, None], [10, None], [None, 3], [10, None]])

    def test_three_scenes(self):
        scenes = [("a", "attic", 1, "any", ()), ("b", "harbour", 2, "any", ()), ("c", "attic", 4, "any", ())]
        told = earliest(made([(20, 20)], scenes), 0, ("a", "b", "c"))
        wanted = [[None] * 3, [1, None, None], [None, 2, None], [5, 5, None], [None, None, 4], [5, None, 5], [None, 8, 8]]
        self.assertEqual(told, wanted + [[9, 9, 9]])

    def test_against_all_rows_of_up_to_five_scenes(self):
        seen = {}
        for seed in range(60):
            chance = random.Random(seed)
            book = random_book(seed, days=2, places=1 + seed % 3, players=1, scenes=6)
            names = [scene[0] for scene in book[5]]
            for many in range(6):
                turn = tuple(chance.sample(names, many))
                day = chance.randrange(2)
                told = earliest(book, day, turn)
                self.assert_lists(told, many)
                self.assertEqual(told, ends_by_all_rows(book, day, turn))
                seen[many, any(end is not None for end in told[-1])] = True
        self.assertEqual({key for key in seen if key[0] > 1}, set(itertools.product(range(2, 6), (False, True))))

    def test_the_names_in_several_turns(self):
        book = random_book(8, days=1, places=2, players=1, scenes=4, most=20)
        names = tuple(scene[0] for scene in book[5])
        plain = earliest(book, 0, names)
        self.assertIsNotNone(max(end for end in plain[-1] if end is not None))
        for turn in itertools.permutations(range(4)):
            told = earliest(book, 0, tuple(names[at] for at in turn))
            for some in range(16):
                own = sum(1 << turn[at] for at in range(4) if some >> at & 1)
                self.assertEqual(told[some], [plain[own][at] for at in turn])

    def test_seven_and_eight_scenes(self):
        for many in (7, 8):
            book = made([(many * 2, many * 2), (many * 2 - 1, 0)], alike(many, 2))
            names = tuple("abcdefgh"[:many])
            told = earliest(book, 0, names)
            self.assert_lists(told, many)
            for some in range(2 ** many):
                ones = bin(some).count("1")
                self.assertEqual(told[some], [2 * ones if some >> at & 1 else None for at in range(many)])
            told = earliest(book, 1, names)
            self.assertEqual(told[-1], [None] * many)
            self.assertEqual(told[-2], [None] + [2 * many - 2] * (many - 1))

    def test_eight_scenes_at_two_places(self):
        scenes = alike(4) + [(name, "harbour", 1, "moon", ()) for name in "efgh"]
        told = earliest(made([(30, 6)], scenes), 0, tuple("abcdefgh"))
        # The four at the attic, the move while it is light, the four at the harbour.
        self.assertEqual(told[255][4:], [10] * 4)
        # With one at the attic as the last there is a second move, behind the moon scenes.
        self.assertEqual(told[255][:4], [13] * 4)

    def test_what_is_told_is_the_askers_own(self):
        book = made([(10, 6)], alike(3))
        told = earliest(book, 0, ("a", "b", "c"))
        wanted = [list(row) for row in told]
        told[7][0] = "spoiled"
        told[3].clear()
        told.pop()
        self.assertEqual(earliest(book, 0, ("a", "b", "c")), wanted)
        rows = earliest(book, 0, ("a", "b", "c"))
        self.assertEqual(len({id(row) for row in rows}), 8)

    def test_a_break_has_no_end(self):
        told = earliest(made([(0, 0)], alike(3)), 0, ("a", "b", "c"))
        self.assertEqual(told, [[None] * 3] * 8)


class OrderedTest(unittest.TestCase):
    def assert_row(self, book, day, names):
        """Told is a row of just these names that has no slip."""
        row = ordered(book, day, names)
        self.assertIs(type(row), tuple)
        self.assertEqual(sorted(row), sorted(names))
        self.assertIsNone(slip(book, day, row))
        self.assertFalse(has_slip(book, day, row))

    def test_no_names_fit_on_any_day(self):
        book = made([(10, 6), (0, 0)], alike(2))
        for day in (0, 1):
            self.assertEqual(ordered(book, day, ()), ())

    def test_one_name(self):
        book = made([(3, 3), (3, 2), (2, 2), (0, 0)], [("a", "attic", 3, "sun", ()), ("b", "attic", 3, "any", ())])
        self.assertEqual(ordered(book, 0, ("a",)), ("a",))
        self.assertIsNone(ordered(book, 1, ("a",)))
        self.assertEqual(ordered(book, 1, ("b",)), ("b",))
        for day in (2, 3):
            self.assertIsNone(ordered(book, day, ("a",)))
            self.assertIsNone(ordered(book, day, ("b",)))

    def test_the_one_row_that_has_no_slip(self):
        scenes = [("moon", "harbour", 2, "moon", ()), ("late", "attic", 2, "any", ()), ("sun", "attic", 3, "sun", ())]
        # The sun scene by the light, the other one at its place, the move, the moon scene: nine hours.
        book = made([(9, 4), (8, 4), (9, 2)], scenes, move=2)
        for turn in itertools.permutations(("moon", "late", "sun")):
            self.assertEqual(ordered(book, 0, turn), ("sun", "late", "moon"))
            self.assertIsNone(ordered(book, 1, turn))
            self.assertIsNone(ordered(book, 2, turn))

    def test_days_just_long_enough_and_one_less(self):
        for many in range(1, 6):
            names = tuple("abcde"[:many])
            book = made([(3 * many, 0), (3 * many - 1, 0)], alike(many, 3))
            self.assert_row(book, 0, names)
            self.assertIsNone(ordered(book, 1, names))

    def test_days_just_light_enough_and_one_less(self):
        for many in range(1, 6):
            names = tuple("abcde"[:many])
            book = made([(99, 3 * many), (99, 3 * many - 1)], alike(many, 3, "sun"))
            self.assert_row(book, 0, names)
            self.assertIsNone(ordered(book, 1, names))

    def test_moves_count(self):
        scenes = [("a", "attic", 1, "any", ()), ("b", "harbour", 1, "any", ()), ("c", "attic", 1, "any", ())]
        book = made([(5, 0), (4, 0)], scenes, move=2)
        for turn in itertools.permutations("abc"):
            self.assert_row(book, 0, turn)
            self.assertIsNone(ordered(book, 1, turn))

    def test_five_fit_where_six_and_seven_never_do(self):
        book = made([(99, 99)], alike(8))
        self.assert_row(book, 0, tuple("abcde"))
        self.assert_row(book, 0, tuple("hgfed"))
        for names in (tuple("abcdef"), tuple("hgfedc"), tuple("abcdefg"), tuple("gfedcba"), tuple("bcdefgh")):
            self.assertIsNone(ordered(book, 0, names))

    def test_against_all_rows_of_up_to_five_scenes(self):
        seen = {}
        for seed in range(80):
            chance = random.Random(seed)
            book = random_book(seed, days=2, places=1 + seed % 3, players=1, scenes=6)
            names = [scene[0] for scene in book[5]]
            for many, day in itertools.product(range(6), range(2)):
                turn = tuple(chance.sample(names, many))
                for asked in (turn, turn[::-1], tuple(sorted(turn))):
                    if fits(book, day, turn):
                        self.assert_row(book, day, asked)
                    else:
                        self.assertIsNone(ordered(book, day, asked))
                seen[many, fits(book, day, turn)] = True
        self.assertEqual({key for key in seen if key[0] > 0}, set(itertools.product(range(1, 6), (False, True))))

    def test_every_turn_of_five_names(self):
        scenes = [("a", "attic", 2, "sun", ()), ("b", "harbour", 2, "sun", ()), ("c", "attic", 1, "moon", ())]
        scenes += [("d", "harbour", 3, "any", ()), ("e", "attic", 2, "sun", ())]
        book = made([(12, 7), (11, 7), (12, 6)], scenes, move=1)
        for day in range(3):
            fit = fits(book, day, "abcde")
            for turn in itertools.permutations("abcde"):
                if fit:
                    self.assert_row(book, day, turn)
                else:
                    self.assertIsNone(ordered(book, day, turn))
        self.assertEqual([fits(book, day, "abcde") for day in range(3)], [True, False, False])

    def test_what_fits_fits_with_scenes_left_out(self):
        for seed in range(40):
            book = random_book(seed, days=1, places=2, players=1, scenes=5, most=16)
            names = tuple(scene[0] for scene in book[5])
            if ordered(book, 0, names) is None:
                continue
            for many in range(5):
                for fewer in itertools.combinations(names, many):
                    self.assert_row(book, 0, fewer)

    def test_it_goes_with_the_earliest_ends(self):
        for seed in range(40):
            book = random_book(seed, days=1, places=2, players=1, scenes=5)
            names = tuple(scene[0] for scene in book[5])
            ends = earliest(book, 0, names)[-1]
            self.assertEqual(ordered(book, 0, names) is None, all(end is None for end in ends))

    def test_the_same_asked_again_is_told_the_same(self):
        book = random_book(1, days=1, places=2, players=1, scenes=5)
        names = tuple(scene[0] for scene in book[5])
        self.assertEqual(ordered(book, 0, names), ordered(book, 0, names))


if __name__ == "__main__":
    unittest.main()
