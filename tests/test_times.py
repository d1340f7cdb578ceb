import itertools
import unittest

from shootdays.books import book_of
from shootdays.times import slip, timed
from tests.helper import has_slip, hours_of, random_book

PLACES = [("attic", 0, ()), ("harbour", 0, ())]
SCENES = [
    ("sa", "attic", 3, "sun", ()),
    ("sh", "harbour", 2, "sun", ()),
    ("ma", "attic", 4, "moon", ()),
    ("mh", "harbour", 1, "moon", ()),
    ("aa", "attic", 5, "any", ()),
    ("ah", "harbour", 6, "any", ()),
]


def made(hours, light, move=2, scenes=None):
    """A book whose day 1 has these hours and this light; the days beside it have others."""
    return book_of(0, move, [(1, 0), (hours, light), (99, 99)], PLACES, [], SCENES if scenes is None else scenes)


class TimedTest(unittest.TestCase):
    def assert_timed(self, book, names, told):
        self.assertEqual(timed(book, 1, names), told)
        self.assertIs(type(timed(book, 1, names)), tuple)
        for row in timed(book, 1, names):
            self.assertIs(type(row), tuple)

    def test_a_row_of_none(self):
        self.assert_timed(made(10, 6), (), ())

    def test_one_scene_starts_at_nought(self):
        self.assert_timed(made(10, 6), ("sa",), (("sa", 0, 3),))
        self.assert_timed(made(10, 6), ("ah",), (("ah", 0, 6),))

    def test_one_moon_scene_starts_when_the_light_is_over(self):
        self.assert_timed(made(10, 6), ("ma",), (("ma", 6, 10),))
        self.assert_timed(made(10, 0), ("ma",), (("ma", 0, 4),))

    def test_at_one_place_there_is_no_move(self):
        self.assert_timed(made(20, 20), ("sa", "aa"), (("sa", 0, 3), ("aa", 3, 8)))
        self.assert_timed(made(20, 20), ("aa", "sa"), (("aa", 0, 5), ("sa", 5, 8)))

    def test_to_another_place_there_is_the_move(self):
        self.assert_timed(made(20, 20), ("sa", "sh"), (("sa", 0, 3), ("sh", 5, 7)))
        self.assert_timed(made(20, 20, move=0), ("sa", "sh"), (("sa", 0, 3), ("sh", 3, 5)))
        self.assert_timed(
            made(30, 30), ("sa", "sh", "aa", "ah"), (("sa", 0, 3), ("sh", 5, 7), ("aa", 9, 14), ("ah", 16, 22))
        )

    def test_a_moon_scene_behind_others(self):
        # It waits for the end of the light, and not for longer.
        self.assert_timed(made(30, 9), ("sa", "ma"), (("sa", 0, 3), ("ma", 9, 13)))
        self.assert_timed(made(30, 3), ("sa", "ma"), (("sa", 0, 3), ("ma", 3, 7)))
        self.assert_timed(made(30, 2), ("sa", "ma"), (("sa", 0, 3), ("ma", 3, 7)))
        # The move may go by while it is light.
        self.assert_timed(made(30, 9), ("sa", "mh"), (("sa", 0, 3), ("mh", 9, 10)))
        self.assert_timed(made(30, 5), ("sa", "mh"), (("sa", 0, 3), ("mh", 5, 6)))
        self.assert_timed(made(30, 4), ("sa", "mh"), (("sa", 0, 3), ("mh", 5, 6)))
        self.assert_timed(made(30, 6), ("sa", "mh"), (("sa", 0, 3), ("mh", 6, 7)))

    def test_behind_a_moon_scene(self):
        self.assert_timed(made(30, 6), ("ma", "aa"), (("ma", 6, 10), ("aa", 10, 15)))
        self.assert_timed(made(30, 6), ("ma", "ah"), (("ma", 6, 10), ("ah", 12, 18)))
        self.assert_timed(made(30, 6), ("ma", "mh", "sa"), (("ma", 6, 10), ("mh", 12, 13), ("sa", 15, 18)))

    def test_hours_are_told_whether_they_slip_or_not(self):
        self.assert_timed(made(1, 1), ("sa", "ah"), (("sa", 0, 3), ("ah", 5, 11)))
        self.assert_timed(made(0, 0), ("ah",), (("ah", 0, 6),))

    def test_the_day_that_is_asked_for(self):
        book = made(10, 6)
        self.assertEqual(timed(book, 0, ("ma",)), (("ma", 0, 4),))
        self.assertEqual(timed(book, 1, ("ma",)), (("ma", 6, 10),))
        self.assertEqual(timed(book, 2, ("ma",)), (("ma", 99, 103),))

    def test_many_rows(self):
        for seed in range(12):
            book = random_book(seed, days=2, places=3, players=1, scenes=4)
            names = [scene[0] for scene in book[5]]
            for many in range(5):
                for row in itertools.permutations(names, many):
                    self.assertEqual(timed(book, 1, row), tuple(hours_of(book, 1, row)))

    def test_eight_scenes(self):
        book = random_book(3, days=2, places=3, players=1, scenes=8)
        names = tuple(scene[0] for scene in book[5])
        self.assertEqual(timed(book, 0, names), tuple(hours_of(book, 0, names)))
        self.assertEqual(timed(book, 0, names[::-1]), tuple(hours_of(book, 0, names[::-1])))

    def test_great_numbers(self):
        long = 6 * 10 ** 10
        scenes = [("a", "attic", long, "any", ()), ("b", "harbour", long, "moon", ()), ("c", "attic", long, "any", ())]
        book = book_of(0, 2 * 10 ** 10, [(2 * 10 ** 11, 10 ** 11)], PLACES, [], scenes)
        told = (("a", 0, long), ("b", 10 ** 11, 10 ** 11 + long), ("c", 18 * 10 ** 10, 24 * 10 ** 10))
        self.assertEqual(timed(book, 0, ("a", "b", "c")), told)

    def test_the_same_asked_again_is_told_the_same(self):
        book, names = made(10, 6), ("sa", "mh", "aa")
        self.assertEqual(timed(book, 1, names), timed(book, 1, names))
        self.assertEqual(book, made(10, 6))


class SlipTest(unittest.TestCase):
    def assert_slip(self, book, names, told):
        self.assertEqual(slip(book, 1, names), told)
        if told is not None:
            self.assertIs(type(slip(book, 1, names)), tuple)

    def test_no_scene_never_slips(self):
        for day in ((0, 0), (10, 6)):
            self.assert_slip(made(*day), (), None)

    def test_a_sun_scene_at_the_light(self):
        self.assert_slip(made(10, 3), ("sa",), None)
        self.assert_slip(made(3, 3), ("sa",), None)
        self.assert_slip(made(10, 2), ("sa",), ("late", "sa"))
        self.assert_slip(made(10, 7), ("sa", "sh"), None)
        self.assert_slip(made(10, 6), ("sa", "sh"), ("late", "sh"))

    def test_an_any_scene_at_the_hours(self):
        self.assert_slip(made(5, 0), ("aa",), None)
        self.assert_slip(made(5, 5), ("aa",), None)
        self.assert_slip(made(4, 4), ("aa",), ("long", "aa"))
        self.assert_slip(made(13, 0), ("aa", "ah"), None)
        self.assert_slip(made(12, 0), ("aa", "ah"), ("long", "ah"))

    def test_a_moon_scene_at_the_hours(self):
        self.assert_slip(made(10, 6), ("ma",), None)
        self.assert_slip(made(10, 7), ("ma",), ("long", "ma"))
        self.assert_slip(made(9, 6), ("ma",), ("long", "ma"))
        self.assert_slip(made(4, 0), ("ma",), None)
        self.assert_slip(made(3, 0), ("ma",), ("long", "ma"))

    def test_late_goes_ahead_of_long_at_one_scene(self):
        self.assert_slip(made(2, 2), ("sa",), ("late", "sa"))
        self.assert_slip(made(0, 0), ("sa",), ("late", "sa"))

    def test_the_first_scene_in_the_rows_order_is_told(self):
        self.assert_slip(made(7, 3), ("sa", "aa", "sh"), ("long", "aa"))
        self.assert_slip(made(7, 3), ("sa", "sh", "aa"), ("late", "sh"))
        self.assert_slip(made(8, 2), ("aa", "sa", "sh"), ("late", "sa"))
        self.assert_slip(made(2, 1), ("ah", "sa"), ("long", "ah"))
        self.assert_slip(made(2, 1), ("sa", "ah"), ("late", "sa"))

    def test_a_sun_scene_behind_a_moon_scene_is_late(self):
        self.assert_slip(made(30, 10), ("mh", "sa"), ("late", "sa"))

    def test_a_break(self):
        for name in ("sa", "sh"):
            self.assert_slip(made(0, 0), (name,), ("late", name))
        for name in ("ma", "mh", "aa", "ah"):
            self.assert_slip(made(0, 0), (name,), ("long", name))

    def test_the_day_that_is_asked_for(self):
        book = made(10, 3)
        self.assertEqual(slip(book, 0, ("sa",)), ("late", "sa"))
        self.assertIsNone(slip(book, 1, ("sa",)))
        self.assertIsNone(slip(book, 2, ("sa", "sh", "aa", "ah")))

    def test_many_rows(self):
        told = {}
        for seed in range(20):
            book = random_book(seed, days=2, places=3, players=1, scenes=4)
            words = {scene[0]: scene[3] for scene in book[5]}
            for day, many in itertools.product(range(2), range(5)):
                hours, light = book[2][day]
                for row in itertools.permutations(words, many):
                    found = slip(book, day, row)
                    wrong = [(name, end) for name, _, end in hours_of(book, day, row)
                             if end > (light if words[name] == "sun" else hours)]
                    self.assertEqual(found is not None, has_slip(book, day, row))
                    if wrong:
                        name = wrong[0][0]
                        self.assertEqual(found, ("late" if words[name] == "sun" else "long", name))
                    told[found and found[0]] = True
        self.assertEqual(set(told), {None, "late", "long"})


if __name__ == "__main__":
    unittest.main()
