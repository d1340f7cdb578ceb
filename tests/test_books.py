import copy
import unittest

from shootdays.books import book_of, place_at, player_at, scene_at
from shootdays.errors import NoBook

CREW = 500
MOVE = 2
DAYS = ((10, 6), (0, 0), (12, 12))
PLACES = (("harbour", 40, ()), ("attic", 0, (0, 2)))
PLAYERS = (("ada", 90, 30, 2, (1,)), ("bo", 50, 50, 8, ()))
SCENES = (
    ("open", "attic", 3, "sun", ("bo", "ada")),
    ("chase", "harbour", 1, "moon", ()),
    ("end", "attic", 5, "any", ("ada",)),
)
BOOK = (CREW, MOVE, DAYS, PLACES, PLAYERS, SCENES)
NAMES = ("a", "bb", "ccc", "dddd", "eeeee", "ffffff", "ggggggg", "hhhhhhhh", "z")

NO_MONEY = (-1, 10 ** 60, True, False, None, "5", b"5", (), [], (5,), {}, 10 ** 61)
NO_HOURS = (-1, 10 ** 12, True, False, None, "5", b"5", (), [], (5,), {}, 10 ** 13)
NO_NAMES = ("", "abcdefghi", "Ada", "ad4", "a b", " ada", "ada ", "a-b", "ada\n", 5, True, None, b"ada", ("ada",), ["ada"], {})
NO_ROWS = (None, 5, "ab", b"ab", (), {}, [])
NO_PARTS = (None, 5, True, "", "ab", b"", {}, {"a": 1}, set(), range(0))
EMPTY_WRONG_TUPLES = (None, 0, "", b"", [], {}, set(), True)


def made(**parts):
    """A book of the plain parts, but for the named ones."""
    whole = {"crew": CREW, "move": MOVE, "days": DAYS, "places": PLACES, "players": PLAYERS, "scenes": SCENES}
    whole.update(parts)
    return book_of(**whole)


def bare(**parts):
    """A book of one day and nothing else, but for the named parts."""
    whole = {"crew": 0, "move": 0, "days": ((1, 1),), "places": (), "players": (), "scenes": ()}
    whole.update(parts)
    return book_of(**whole)


def placed(name="attic", rent=7, shut=(), days=3):
    return bare(days=((9, 5),) * days, places=((name, rent, shut),))


def played(name="ada", pay=9, hold=4, run=2, away=(), days=3):
    return bare(days=((9, 5),) * days, players=((name, pay, hold, run, away),))


def scened(name="open", place="attic", length=3, word="sun", cast=()):
    return made(scenes=((name, place, length, word, cast),))


class BooksTest(unittest.TestCase):
    def assert_refused(self, make, **parts):
        with self.subTest(**parts):
            with self.assertRaises(NoBook) as caught:
                make(**parts)
            self.assertIs(type(caught.exception), NoBook)

    def assert_kinds(self, book):
        self.assertIs(type(book), tuple)
        self.assertEqual(len(book), 6)
        for part in book[2:]:
            self.assertIs(type(part), tuple)
            for row in part:
                self.assertIs(type(row), tuple)


class WholeBookTest(BooksTest):
    def test_a_plain_book_is_the_tuple_of_its_parts(self):
        self.assertEqual(made(), BOOK)
        self.assert_kinds(made())

    def test_by_position_and_by_name(self):
        self.assertEqual(book_of(CREW, MOVE, DAYS, PLACES, PLAYERS, SCENES), BOOK)

    def test_lists_and_tuples_make_the_same_book(self):
        for mask in range(16):
            parts = [DAYS, PLACES, PLAYERS, SCENES]
            handed = [list(part) if mask >> at & 1 else part for at, part in enumerate(parts)]
            with self.subTest(mask=mask):
                book = book_of(CREW, MOVE, *handed)
                self.assertEqual(book, BOOK)
                self.assert_kinds(book)

    def test_the_same_asked_again_is_told_the_same(self):
        self.assertEqual(made(), made())
        self.assertEqual(made(days=list(DAYS)), made(days=list(DAYS)))

    def test_a_made_book_is_made_again_of_its_parts(self):
        self.assertEqual(book_of(*made()), BOOK)

    def test_lists_handed_in_are_left_as_they_are(self):
        handed = [list(DAYS), list(PLACES), list(PLAYERS), list(SCENES)]
        before = copy.deepcopy(handed)
        book_of(CREW, MOVE, *handed)
        self.assertEqual(handed, before)

    def test_lists_of_a_refused_book_are_left_as_they_are(self):
        handed = [list(DAYS), list(PLACES), list(PLAYERS), list(SCENES) + [("x", "nowhere", 1, "sun", ())]]
        before = copy.deepcopy(handed)
        with self.assertRaises(NoBook):
            book_of(CREW, MOVE, *handed)
        self.assertEqual(handed, before)

    def test_lists_changed_behind_change_no_book(self):
        handed = [list(DAYS), list(PLACES), list(PLAYERS), list(SCENES)]
        book = book_of(CREW, MOVE, *handed)
        for part in handed:
            part[0] = None
            part.append("more")
            part.reverse()
        self.assertEqual(book, BOOK)
        for part in handed:
            part.clear()
        self.assertEqual(book, BOOK)

    def test_a_book_without_places_players_and_scenes(self):
        self.assertEqual(bare(), (0, 0, ((1, 1),), (), (), ()))
        self.assertEqual(bare(places=[], players=[], scenes=[]), (0, 0, ((1, 1),), (), (), ()))

    def test_parts_that_are_no_lists_and_no_tuples(self):
        for part in NO_PARTS:
            for name in ("days", "places", "players", "scenes"):
                self.assert_refused(bare, **{name: part})

    def test_rows_that_are_no_tuples_of_their_size(self):
        for row in NO_ROWS:
            for name in ("days", "places", "players", "scenes"):
                for kind in (list, tuple):
                    self.assert_refused(bare, **{name: kind([row])})

    def test_rows_that_are_lists(self):
        self.assert_refused(made, days=[list(row) for row in DAYS])
        self.assert_refused(made, places=[list(row) for row in PLACES])
        self.assert_refused(made, players=[list(row) for row in PLAYERS])
        self.assert_refused(made, scenes=[list(row) for row in SCENES])

    def test_a_row_with_one_thing_more_or_less(self):
        for name, part in (("days", DAYS), ("places", PLACES), ("players", PLAYERS), ("scenes", SCENES)):
            for at in range(len(part)):
                more = part[at] + ((),)
                less = part[at][:-1]
                self.assert_refused(made, **{name: part[:at] + (more,) + part[at + 1:]})
                self.assert_refused(made, **{name: part[:at] + (less,) + part[at + 1:]})

    def test_one_wrong_row_among_right_ones(self):
        for at in range(3):
            self.assert_refused(made, days=DAYS[:at] + ((5, 6),) + DAYS[at + 1:])
            self.assert_refused(made, scenes=SCENES[:at] + (("x", "attic", 0, "sun", ()),) + SCENES[at + 1:])
        for at in range(2):
            self.assert_refused(made, places=PLACES[:at] + (("X", 5, ()),) + PLACES[at + 1:], scenes=())
            self.assert_refused(made, players=PLAYERS[:at] + (("x", 5, 6, 1, ()),) + PLAYERS[at + 1:], scenes=())


class CrewAndMoveTest(BooksTest):
    def test_crew_is_money(self):
        for crew in (0, 1, 10 ** 59, 10 ** 60 - 1):
            self.assertEqual(made(crew=crew), (crew,) + BOOK[1:])

    def test_crew_that_is_no_money(self):
        for crew in NO_MONEY:
            self.assert_refused(made, crew=crew)

    def test_move_is_hours(self):
        for move in (0, 1, 10 ** 11, 10 ** 12 - 1):
            self.assertEqual(made(move=move), (CREW, move) + BOOK[2:])

    def test_move_that_is_no_hours(self):
        for move in NO_HOURS:
            self.assert_refused(made, move=move)


class DaysTest(BooksTest):
    def test_one_to_eight_days(self):
        for many in range(1, 9):
            days = tuple((at + 2, at) for at in range(many))
            self.assertEqual(bare(days=days)[2], days)
            self.assertEqual(bare(days=list(days))[2], days)

    def test_no_day_and_nine_days(self):
        for kind in (list, tuple):
            self.assert_refused(bare, days=kind(()))
            self.assert_refused(bare, days=kind(((9, 5),) * 9))

    def test_hours_and_light_at_their_edges(self):
        top = 10 ** 12 - 1
        for day in ((0, 0), (1, 0), (1, 1), (top, 0), (top, top), (top, top - 1)):
            self.assertEqual(bare(days=(day,))[2], (day,))

    def test_light_above_hours(self):
        for day in ((0, 1), (5, 6), (10 ** 12 - 2, 10 ** 12 - 1)):
            self.assert_refused(bare, days=(day,))

    def test_what_is_no_hours_and_no_light(self):
        for wrong in NO_HOURS:
            self.assert_refused(bare, days=((wrong, 0),))
            self.assert_refused(bare, days=((10 ** 12 - 1, wrong),))
            self.assert_refused(bare, days=((wrong, wrong),))


class PlacesTest(BooksTest):
    def test_at_most_six_places(self):
        for many in range(7):
            places = tuple((name, 3, ()) for name in NAMES[:many])
            self.assertEqual(bare(places=places)[3], places)
            self.assertEqual(bare(places=list(places))[3], places)
        for kind in (list, tuple):
            self.assert_refused(bare, places=kind((name, 3, ()) for name in NAMES[:7]))

    def test_names_at_their_edges(self):
        for name in ("a", "z", "abcdefgh", "zzzzzzzz"):
            self.assertEqual(placed(name=name)[3], ((name, 7, ()),))

    def test_what_is_no_name(self):
        for name in NO_NAMES:
            self.assert_refused(placed, name=name)

    def test_rent_is_money(self):
        for rent in (0, 1, 10 ** 60 - 1):
            self.assertEqual(placed(rent=rent)[3], (("attic", rent, ()),))
        for rent in NO_MONEY:
            self.assert_refused(placed, rent=rent)

    def test_shut_days(self):
        for shut in ((), (0,), (2,), (0, 2), (1, 2), (0, 1, 2)):
            self.assertEqual(placed(shut=shut)[3], (("attic", 7, shut),))
        self.assertEqual(placed(shut=tuple(range(8)), days=8)[3], (("attic", 7, tuple(range(8))),))

    def test_shut_that_is_no_rising_days_of_the_book(self):
        for shut in ((3,), (0, 3), (-1,), (-1, 0), (0, 0), (1, 1), (1, 0), (2, 1), (0, 2, 1), (0, 1, 0), (8,)):
            self.assert_refused(placed, shut=shut)
        self.assert_refused(placed, shut=(8,), days=8)
        self.assert_refused(placed, shut=(1,), days=1)

    def test_shut_of_other_kinds(self):
        for day in (True, False, None, "0", b"0", (), [], (0,)):
            self.assert_refused(placed, shut=(day,))
        self.assert_refused(placed, shut=(0, True))
        for shut in EMPTY_WRONG_TUPLES + ([0], [0, 2], "0", {0: 1}, 1):
            self.assert_refused(placed, shut=shut)

    def test_two_places_of_one_name(self):
        for places in ((("a", 1, ()), ("a", 1, ())), (("a", 1, ()), ("b", 1, ()), ("a", 2, (0,)))):
            self.assert_refused(bare, places=places)


class PlayersTest(BooksTest):
    def test_at_most_six_players(self):
        for many in range(7):
            players = tuple((name, 3, 1, 1, ()) for name in NAMES[:many])
            self.assertEqual(bare(players=players)[4], players)
            self.assertEqual(bare(players=list(players))[4], players)
        for kind in (list, tuple):
            self.assert_refused(bare, players=kind((name, 3, 1, 1, ()) for name in NAMES[:7]))

    def test_names_at_their_edges(self):
        for name in ("a", "z", "abcdefgh", "zzzzzzzz"):
            self.assertEqual(played(name=name)[4], ((name, 9, 4, 2, ()),))

    def test_what_is_no_name(self):
        for name in NO_NAMES:
            self.assert_refused(played, name=name)

    def test_pay_and_hold_at_their_edges(self):
        top = 10 ** 60 - 1
        for pay, hold in ((0, 0), (1, 0), (1, 1), (top, 0), (top, top), (top, top - 1)):
            self.assertEqual(played(pay=pay, hold=hold)[4], (("ada", pay, hold, 2, ()),))

    def test_hold_above_pay(self):
        for pay, hold in ((0, 1), (9, 10), (10 ** 60 - 2, 10 ** 60 - 1)):
            self.assert_refused(played, pay=pay, hold=hold)

    def test_what_is_no_pay_and_no_hold(self):
        for wrong in NO_MONEY:
            self.assert_refused(played, pay=wrong, hold=0)
            self.assert_refused(played, pay=10 ** 60 - 1, hold=wrong)
            self.assert_refused(played, pay=wrong, hold=wrong)

    def test_runs_from_one_to_eight(self):
        for run in range(1, 9):
            self.assertEqual(played(run=run)[4], (("ada", 9, 4, run, ()),))
            # A run may be longer than the book has days.
            self.assertEqual(played(run=run, days=1)[4], (("ada", 9, 4, run, ()),))
        for run in (0, 9, -1, 10 ** 60, True, None, "1", b"1", (), [], (1,)):
            self.assert_refused(played, run=run)

    def test_days_away(self):
        for away in ((), (0,), (2,), (0, 2), (1, 2), (0, 1, 2)):
            self.assertEqual(played(away=away)[4], (("ada", 9, 4, 2, away),))
        self.assertEqual(played(away=tuple(range(8)), days=8)[4], (("ada", 9, 4, 2, tuple(range(8))),))

    def test_away_that_is_no_rising_days_of_the_book(self):
        for away in ((3,), (0, 3), (-1,), (-1, 0), (0, 0), (1, 1), (1, 0), (2, 1), (0, 2, 1), (0, 1, 0), (8,)):
            self.assert_refused(played, away=away)
        self.assert_refused(played, away=(8,), days=8)
        self.assert_refused(played, away=(1,), days=1)

    def test_away_of_other_kinds(self):
        for day in (True, False, None, "0", b"0", (), [], (0,)):
            self.assert_refused(played, away=(day,))
        self.assert_refused(played, away=(0, True))
        for away in EMPTY_WRONG_TUPLES + ([0], [0, 2], "0", {0: 1}, 1):
            self.assert_refused(played, away=away)

    def test_two_players_of_one_name(self):
        one = ("a", 1, 1, 1, ())
        for players in ((one, one), (one, ("b", 1, 1, 1, ()), ("a", 2, 1, 3, (0,)))):
            self.assert_refused(bare, players=players)


class ScenesTest(BooksTest):
    def test_at_most_eight_scenes(self):
        for many in range(9):
            scenes = tuple((name, "attic", 3, "any", ()) for name in NAMES[:many])
            self.assertEqual(made(scenes=scenes)[5], scenes)
            self.assertEqual(made(scenes=list(scenes))[5], scenes)
        for kind in (list, tuple):
            self.assert_refused(made, scenes=kind((name, "attic", 3, "any", ()) for name in NAMES))

    def test_names_at_their_edges(self):
        for name in ("a", "z", "abcdefgh", "zzzzzzzz"):
            self.assertEqual(scened(name=name)[5], ((name, "attic", 3, "sun", ()),))

    def test_what_is_no_name(self):
        for name in NO_NAMES:
            self.assert_refused(scened, name=name)

    def test_the_place_is_one_of_the_book(self):
        for place in ("harbour", "attic"):
            self.assertEqual(scened(place=place)[5], (("open", place, 3, "sun", ()),))
        for place in NO_NAMES + ("cellar", "atti", "attics", "ada", "open", 0, 1):
            self.assert_refused(scened, place=place)
        self.assert_refused(bare, scenes=(("open", "attic", 3, "sun", ()),))

    def test_lengths(self):
        for length in (1, 2, 10 ** 12 - 1):
            self.assertEqual(scened(length=length)[5], (("open", "attic", length, "sun", ()),))
        for length in NO_HOURS + (0,):
            self.assert_refused(scened, length=length)

    def test_the_three_words(self):
        for word in ("sun", "moon", "any"):
            self.assertEqual(scened(word=word)[5], (("open", "attic", 3, word, ()),))
        for word in ("", "Sun", "SUN", "suns", "su", "day", "none", "sun ", None, True, 0, b"sun", ("sun",), ["sun"], {}):
            self.assert_refused(scened, word=word)

    def test_casts_in_any_order(self):
        for cast in ((), ("ada",), ("bo",), ("ada", "bo"), ("bo", "ada")):
            self.assertEqual(scened(cast=cast)[5], (("open", "attic", 3, "sun", cast),))

    def test_a_cast_of_all_six_players(self):
        players = tuple((name, 3, 1, 1, ()) for name in NAMES[:6])
        cast = NAMES[5::-1]
        scenes = (("open", "attic", 3, "sun", cast),)
        self.assertEqual(made(players=players, scenes=scenes)[5], scenes)

    def test_a_name_twice_in_a_cast(self):
        for cast in (("ada", "ada"), ("ada", "bo", "ada"), ("bo", "bo", "ada"), ("ada", "bo", "bo")):
            self.assert_refused(scened, cast=cast)

    def test_a_cast_of_others_than_the_books_players(self):
        for name in NO_NAMES + ("cy", "adas", "attic", "open", 0, 1):
            for cast in ((name,), ("ada", name), (name, "ada")):
                if cast != ("ada", "ada"):
                    self.assert_refused(scened, cast=cast)

    def test_a_cast_of_another_kind(self):
        for cast in EMPTY_WRONG_TUPLES + (["ada"], "ada", {"ada": 1}, {"ada"}):
            self.assert_refused(scened, cast=cast)

    def test_two_scenes_of_one_name(self):
        one = ("open", "attic", 3, "sun", ())
        other = ("end", "attic", 3, "sun", ())
        again = ("open", "harbour", 5, "moon", ("ada",))
        for scenes in ((one, one), (one, again), (one, other, again), (other, one, again)):
            self.assert_refused(made, scenes=scenes)


class TopBookTest(BooksTest):
    def test_a_book_at_all_its_edges_at_once(self):
        money = 10 ** 60 - 1
        hours = 10 ** 12 - 1
        days = ((hours, hours),) * 8
        every = tuple(range(8))
        places = tuple((name, money, every) for name in NAMES[:6])
        players = tuple((name, money, money, 8, every) for name in NAMES[:6])
        scenes = tuple((name, NAMES[at % 6], hours, "moon", NAMES[:6]) for at, name in enumerate(NAMES[:8]))
        book = book_of(money, hours, list(days), list(places), list(players), list(scenes))
        self.assertEqual(book, (money, hours, days, places, players, scenes))
        self.assert_kinds(book)


class AtTest(unittest.TestCase):
    def test_each_name_of_a_book(self):
        book = made()
        for at, row in enumerate(PLACES):
            self.assertEqual(place_at(book, row[0]), at)
        for at, row in enumerate(PLAYERS):
            self.assertEqual(player_at(book, row[0]), at)
        for at, row in enumerate(SCENES):
            self.assertEqual(scene_at(book, row[0]), at)

    def test_each_name_of_a_full_book(self):
        places = tuple((name, 1, ()) for name in NAMES[:6])
        players = tuple((name, 1, 1, 1, ()) for name in NAMES[5::-1])
        scenes = tuple((name, "a", 1, "any", ()) for name in NAMES[:8])
        book = bare(places=places, players=players, scenes=scenes)
        self.assertEqual([place_at(book, name) for name in NAMES], [0, 1, 2, 3, 4, 5, None, None, None])
        self.assertEqual([player_at(book, name) for name in NAMES], [5, 4, 3, 2, 1, 0, None, None, None])
        self.assertEqual([scene_at(book, name) for name in NAMES], [0, 1, 2, 3, 4, 5, 6, 7, None])

    def test_names_that_are_not_there(self):
        book = made()
        for name in ("nobody", "a", "atti", "attics", "ope", "adas"):
            self.assertIsNone(place_at(book, name))
            self.assertIsNone(player_at(book, name))
            self.assertIsNone(scene_at(book, name))

    def test_a_name_of_another_kind_is_not_there(self):
        book = made()
        self.assertIsNone(place_at(book, "ada"))
        self.assertIsNone(place_at(book, "open"))
        self.assertIsNone(player_at(book, "attic"))
        self.assertIsNone(player_at(book, "open"))
        self.assertIsNone(scene_at(book, "attic"))
        self.assertIsNone(scene_at(book, "ada"))

    def test_nothing_is_in_a_bare_book(self):
        self.assertIsNone(place_at(bare(), "attic"))
        self.assertIsNone(player_at(bare(), "ada"))
        self.assertIsNone(scene_at(bare(), "open"))

    def test_a_name_that_a_place_a_player_and_a_scene_have(self):
        places = (("same", 1, ()),)
        players = (("ada", 1, 1, 1, ()), ("same", 1, 1, 1, ()))
        scenes = (("x", "same", 1, "any", ()), ("y", "same", 1, "any", ("ada",)), ("same", "same", 1, "any", ("same",)))
        book = bare(places=places, players=players, scenes=scenes)
        self.assertEqual(place_at(book, "same"), 0)
        self.assertEqual(player_at(book, "same"), 1)
        self.assertEqual(scene_at(book, "same"), 2)

    def test_the_same_asked_again_is_told_the_same(self):
        book = made()
        for name in ("attic", "bo", "end", "nobody"):
            self.assertEqual(place_at(book, name), place_at(book, name))
            self.assertEqual(player_at(book, name), player_at(book, name))
            self.assertEqual(scene_at(book, name), scene_at(book, name))
        self.assertEqual(book, BOOK)


if __name__ == "__main__":
    unittest.main()
