import itertools
import random
import re
import unittest

from shootdays.books import book_of
from shootdays.errors import NoName, NoText, Twice
from shootdays.texts import read_book, show_book
from tests.helper import random_book

ROWS = (
    "crew 500 move 2",
    "day 10 6",
    "day 0 0",
    "day 12 12",
    "place harbour 40",
    "place attic 0 shut 0 2",
    "player ada 90 30 2 away 1",
    "player bo 50 50 8",
    "scene open attic 3 sun bo ada",
    "scene chase harbour 1 moon",
    "scene end attic 5 any ada",
)
BOOK = (
    500,
    2,
    ((10, 6), (0, 0), (12, 12)),
    (("harbour", 40, ()), ("attic", 0, (0, 2))),
    (("ada", 90, 30, 2, (1,)), ("bo", 50, 50, 8, ())),
    (
        ("open", "attic", 3, "sun", ("bo", "ada")),
        ("chase", "harbour", 1, "moon", ()),
        ("end", "attic", 5, "any", ("ada",)),
    ),
)

# Rows that are wrong by themselves, wherever they stand behind the first one.
WRONG_ROWS = (
    "", " ", "  ", "x", "days 1 1", "Day 1 1", "DAY 1 1", "shut 1", "sun", "day", "place", "player", "scene",
    "crew 500 move 2", "crew 0 move 0", "crew", " day 1 1", "day 1 1 ", "day  1 1", "day 1  1", "day 1 1 1", "day 1",
    "day\t1 1", "day 1 1\r", "day 1,1", "day 01 1", "day 1 01", "day 00 0", "day +1 1", "day -1 0", "day 1 -0",
    "day one 1", "day 1 x", "day 5 6", "day 0 1", "day 1000000000000 0", "day 1000000000000 1000000000000",
    "day 999999999999 1000000000000", "day 1_0 1", "day 1.5 1", "day ada 1",
    "place wood", "place wood ", "place wood 5 ", "place wood  5", " place wood 5", "place Wood 5", "place wo0d 5",
    "place abcdefghi 5", "place wood 05", "place wood x", "place wood -5", "place wood " + "1" * 61,
    "place wood 5 shut", "place wood 5 shut ", "place wood 5 away 0", "place wood 5 0", "place wood 5 shut 0 0",
    "place wood 5 shut 1 0", "place wood 5 shut 0 2 1", "place wood 5 shut 00", "place wood 5 shut 10",
    "place wood 5 shut x", "place wood 5 shut -1", "place wood 5 shut 0  1", "place wood 5 shut 0 ",
    "place wood 5 shut 9 8", "place wood 5 shut 9 9", "place wood 5 shut 0 shut 1", "place wood 5 Shut 0", "place 5",
    "player cy 9 4", "player cy 9", "player cy", "player cy 9 4 2 ", "player cy 9 4 2 1", "player cy 9 10 2",
    "player cy 0 1 2", "player cy 9 4 0", "player cy 9 4 9", "player cy 9 4 10", "player cy 9 4 02", "player cy 9 4 x",
    "player cy 09 4 2", "player cy 9 04 2", "player cy x 4 2", "player cy 9 x 2", "player Cy 9 4 2", "player c-y 9 4 2",
    "player abcdefghi 9 4 2", "player  9 4 2", "player cy " + "1" * 61 + " 4 2", "player cy 9 " + "1" * 61 + " 2",
    "player cy 9 4 2 away", "player cy 9 4 2 shut 0", "player cy 9 4 2 away 1 1", "player cy 9 4 2 away 2 1",
    "player cy 9 4 2 away 12", "player cy 9 4 2 away 9 8", "player cy 9 4 2 away  0", "player cy 9 4 2 away 0 ",
    "scene kiss attic 3", "scene kiss attic", "scene kiss", "scene kiss attic 3 sun ", "scene kiss attic 3 Sun",
    "scene kiss attic 3 star", "scene kiss attic 3 suns", "scene kiss attic 0 sun", "scene kiss attic 03 sun",
    "scene kiss attic x sun", "scene kiss attic 1000000000000 sun", "scene Kiss attic 3 sun", "scene k1ss attic 3 sun",
    "scene abcdefghi attic 3 sun", "scene kiss Attic 3 sun", "scene kiss abcdefghi 3 sun", "scene  attic 3 sun",
    "scene kiss  3 sun", "scene kiss attic 3  ada", "scene kiss attic 3 sun Ada", "scene kiss attic 3 sun ada  bo",
    "scene kiss attic 3 sun ada ", "scene kiss attic 3 sun abcdefghi", "scene kiss attic 3 sun 1",
    "scene kiss attic 3 any ada,bo", "scene kiss attic sun 3",
)
WRONG_FIRST_ROWS = (
    "", " ", "crew", "crew 1", "crew 1 move", "crew 1 move 2 ", " crew 1 move 2", "crew  1 move 2", "crew 1 move 2 3",
    "crew 1 moves 2", "Crew 1 move 2", "crew 1 Move 2", "crew 01 move 2", "crew 1 move 02", "crew x move 2",
    "crew 1 move x", "crew -1 move 2", "crew 1 move -2", "crew move 1 2", "crew 1 2", "move 2 crew 1", "day 10 6",
    "place harbour 40", "player bo 50 50 8", "scene chase harbour 1 moon", "crew " + "1" * 61 + " move 2",
    "crew 1 move 1000000000000", "crew 1\tmove 2", "crew 1 move 2\r", "crew 1 move", "crew  move 2", "crew 1 move ",
)
# Rows that are written well, but tell a name again, behind all of ROWS.
AGAIN_ROWS = (
    "place harbour 40", "place attic 7", "place attic 0 shut 0 2", "player ada 1 1 1", "player bo 50 50 8 away 2",
    "scene open attic 3 sun", "scene chase attic 9 any ada", "scene end harbour 1 moon bo",
    "scene kiss attic 3 sun ada ada", "scene kiss attic 3 sun ada bo ada", "scene kiss attic 3 any bo bo ada",
    # These name what isn't told as well, which comes behind.
    "place attic 7 shut 3", "place harbour 7 shut 8", "player bo 50 50 8 away 9", "scene open nowhere 3 sun",
    "scene end attic 3 sun nobody", "scene kiss attic 3 sun nobody nobody", "scene kiss nowhere 3 sun bo bo",
)
# Rows that are written well, but name what isn't told, behind all of ROWS.
STRANGE_ROWS = (
    "place wood 5 shut 3", "place wood 5 shut 0 1 2 3", "place wood 5 shut 7", "place wood 5 shut 8",
    "place wood 5 shut 9", "place wood 5 shut 0 9", "place wood 5 shut 8 9", "player cy 9 4 2 away 3",
    "player cy 9 4 2 away 0 8", "player cy 9 4 2 away 9", "scene kiss wood 3 sun", "scene kiss ada 3 sun",
    "scene kiss open 3 sun", "scene kiss attic 3 sun cy", "scene kiss attic 3 sun ada cy", "scene kiss attic 3 sun attic",
    "scene kiss attic 3 sun open", "scene kiss wood 3 sun ada", "scene kiss wood 3 sun cy",
    "scene kiss attic 3 any a b c d e f g",
)


def joined(rows):
    return "\n".join(rows)


def put_in(at, row, rows=ROWS):
    """The text of these rows with one more at this number."""
    return joined([*rows[:at], row, *rows[at:]])


class TextsTest(unittest.TestCase):
    def assert_refused(self, text, kind, row):
        with self.subTest(text=text):
            with self.assertRaises((NoText, Twice, NoName)) as caught:
                read_book(text)
            self.assertIs(type(caught.exception), kind)
            self.assertEqual(caught.exception.row, row)
            self.assertIs(type(caught.exception.row), int)

    def assert_tuples(self, book):
        self.assertIs(type(book), tuple)
        for part in book[2:]:
            self.assertIs(type(part), tuple)
            for row in part:
                self.assertIs(type(row), tuple)
        for row in (*book[3], *book[4], *book[5]):
            self.assertIs(type(row[-1]), tuple)


class ShowTest(TextsTest):
    def test_a_book_of_everything(self):
        self.assertEqual(show_book(BOOK), joined(ROWS))

    def test_a_book_of_one_day_alone(self):
        self.assertEqual(show_book(book_of(0, 0, [(0, 0)], [], [], [])), "crew 0 move 0\nday 0 0")

    def test_places_alone(self):
        book = book_of(7, 10, [(5, 5), (6, 0)], [("a", 0, (0, 1)), ("b", 10, ()), ("c", 3, (1,))], [], [])
        text = "crew 7 move 10\nday 5 5\nday 6 0\nplace a 0 shut 0 1\nplace b 10\nplace c 3 shut 1"
        self.assertEqual(show_book(book), text)

    def test_players_alone(self):
        book = book_of(7, 10, [(5, 5), (6, 0)], [], [("a", 0, 0, 1, (0, 1)), ("b", 100, 90, 8, ())], [])
        self.assertEqual(show_book(book), "crew 7 move 10\nday 5 5\nday 6 0\nplayer a 0 0 1 away 0 1\nplayer b 100 90 8")

    def test_scenes_without_players_and_with_casts_in_their_order(self):
        players = [("a", 1, 0, 1, ()), ("b", 1, 1, 2, ()), ("c", 2, 1, 3, ())]
        scenes = [("x", "p", 1, "any", ()), ("y", "p", 20, "moon", ("c", "a", "b")), ("a", "p", 3, "sun", ("b",))]
        book = book_of(1, 1, [(9, 9)], [("p", 2, ())], players, scenes)
        rows = ["crew 1 move 1", "day 9 9", "place p 2", "player a 1 0 1", "player b 1 1 2", "player c 2 1 3"]
        rows += ["scene x p 1 any", "scene y p 20 moon c a b", "scene a p 3 sun b"]
        self.assertEqual(show_book(book), joined(rows))
        self.assertEqual(read_book(joined(rows)), book)

    def test_great_numbers(self):
        money, hours = 10 ** 60 - 1, 10 ** 12 - 1
        book = book_of(
            money, hours, [(hours, hours)], [("p", money, ())], [("a", money, money, 8, (0,))],
            [("s", "p", hours, "any", ("a",))],
        )
        nines, twelve = "9" * 60, "9" * 12
        rows = [f"crew {nines} move {twelve}", f"day {twelve} {twelve}", f"place p {nines}"]
        rows += [f"player a {nines} {nines} 8 away 0", f"scene s p {twelve} any a"]
        self.assertEqual(show_book(book), joined(rows))
        self.assertEqual(read_book(joined(rows)), book)

    def test_the_same_asked_again_is_told_the_same(self):
        self.assertEqual(show_book(BOOK), show_book(BOOK))
        self.assertIs(type(show_book(BOOK)), str)

    def test_names_like_the_words_of_a_row(self):
        book = book_of(
            1, 1, [(9, 9), (9, 9)], [("shut", 2, (0,)), ("place", 3, ())], [("away", 1, 0, 1, (1,)), ("sun", 1, 0, 1, ())],
            [("scene", "shut", 2, "sun", ("sun", "away")), ("crew", "place", 1, "any", ())],
        )
        rows = ["crew 1 move 1", "day 9 9", "day 9 9", "place shut 2 shut 0", "place place 3", "player away 1 0 1 away 1"]
        rows += ["player sun 1 0 1", "scene scene shut 2 sun sun away", "scene crew place 1 any"]
        self.assertEqual(show_book(book), joined(rows))
        self.assertEqual(read_book(joined(rows)), book)


class ReadTest(TextsTest):
    def test_a_book_of_everything(self):
        book = read_book(joined(ROWS))
        self.assertEqual(book, BOOK)
        self.assert_tuples(book)
        self.assertEqual(book, book_of(*book))

    def test_the_same_asked_again_is_told_the_same(self):
        self.assertEqual(read_book(joined(ROWS)), read_book(joined(ROWS)))

    def test_what_is_shown_is_read_back(self):
        for seed in range(200):
            chance = random.Random(seed)
            sizes = chance.randint(1, 8), chance.randint(1, 6), chance.randint(0, 6), chance.randint(0, 8)
            book = random_book(seed, *sizes)
            with self.subTest(seed=seed):
                told = read_book(show_book(book))
                self.assertEqual(told, book)
                self.assert_tuples(told)

    def test_a_place_a_player_and_a_scene_may_have_one_name(self):
        rows = ["crew 1 move 1", "day 9 9", "place a 1", "player a 1 1 1", "scene a a 1 any a"]
        book = (1, 1, ((9, 9),), (("a", 1, ()),), (("a", 1, 1, 1, ()),), (("a", "a", 1, "any", ("a",)),))
        self.assertEqual(read_book(joined(rows)), book)

    def test_rows_in_another_order(self):
        rows = [ROWS[at] for at in (0, 4, 9, 7, 1, 2, 3, 6, 5, 10, 8)]
        crew, move, days, places, players, scenes = BOOK
        told = (crew, move, days, places, players[::-1], (scenes[1], scenes[2], scenes[0]))
        self.assertEqual(read_book(joined(rows)), told)
        self.assert_tuples(read_book(joined(rows)))

    def test_a_day_is_told_as_soon_as_its_row_stands_ahead(self):
        rows = ["crew 1 move 1", "day 5 5", "place a 1 shut 0", "day 6 6", "player b 1 1 1 away 0 1", "scene s a 1 any b"]
        rows += ["day 7 7", "place c 2 shut 0 1 2"]
        book = read_book(joined(rows))
        self.assertEqual(book[2], ((5, 5), (6, 6), (7, 7)))
        self.assertEqual(book[3], (("a", 1, (0,)), ("c", 2, (0, 1, 2))))
        self.assertEqual(book[4], (("b", 1, 1, 1, (0, 1)),))
        self.assert_refused(joined(rows[:3] + ["player b 1 1 1 away 0 1", "day 6 6"]), NoName, 3)

    def test_every_order_of_some_rows(self):
        rows = ["day 5 4", "place a 1 shut 0", "player b 1 1 1", "scene s a 1 any b", "scene t a 2 sun"]
        wanted = book_of(
            1, 1, [(5, 4)], [("a", 1, (0,))], [("b", 1, 1, 1, ())], [("s", "a", 1, "any", ("b",)), ("t", "a", 2, "sun", ())]
        )
        for turn in itertools.permutations(rows):
            at = {row: turn.index(row) for row in rows}
            wrong = [at[rows[1]]] if at[rows[1]] < at[rows[0]] else []
            wrong += [at[rows[3]]] if at[rows[3]] < max(at[rows[1]], at[rows[2]]) else []
            wrong += [at[rows[4]]] if at[rows[4]] < at[rows[1]] else []
            text = joined(["crew 1 move 1", *turn])
            if wrong:
                self.assert_refused(text, NoName, min(wrong) + 1)
                continue
            scenes = wanted[5] if at[rows[3]] < at[rows[4]] else wanted[5][::-1]
            with self.subTest(turn=turn):
                self.assertEqual(read_book(text), (*wanted[:5], scenes))

    def test_the_days_may_come_last(self):
        rows = [ROWS[at] for at in (0, 4, 7, 9, 1, 2, 3)]
        crew, move, days, places, players, scenes = BOOK
        self.assertEqual(read_book(joined(rows)), (crew, move, days, places[:1], players[1:], scenes[1:2]))

    def test_eight_days_six_places_six_players_eight_scenes(self):
        book = random_book(5, 8, 6, 6, 8)
        rows = show_book(book).split("\n")
        self.assertEqual(len(rows), 29)
        self.assertEqual(read_book(joined(rows)), book)
        for row in ("day 1 1", "place new 1", "player new 1 1 1", "scene new attic 1 any"):
            self.assert_refused(joined([*rows, row]), NoText, 29)
        self.assertEqual(read_book(joined([rows[0]] + ["day 1 1"] * 8))[2], ((1, 1),) * 8)
        self.assert_refused(joined([rows[0]] + ["day 1 1"] * 9), NoText, 9)
        self.assert_refused(joined([rows[0]] + ["day 1 1"] * 10), NoText, 9)

    def test_one_too_many_goes_ahead_of_twice_and_no_name(self):
        rows = show_book(random_book(5, 8, 6, 6, 8)).split("\n")
        for row in ("place attic 1", "place new 1 shut 9", "player ada 1 1 1", "player new 1 1 1 away 8"):
            self.assert_refused(joined([*rows, row]), NoText, 29)
        for row in ("scene open attic 1 any", "scene new nowhere 1 any", "scene new attic 1 any ada ada"):
            self.assert_refused(joined([*rows, row]), NoText, 29)

    def test_the_last_day_of_eight(self):
        rows = ["crew 1 move 1"] + ["day 1 1"] * 8
        self.assertEqual(read_book(joined([*rows, "place a 1 shut 7"]))[3], (("a", 1, (7,)),))
        self.assertEqual(read_book(joined([*rows, "player a 1 1 1 away 0 7"]))[4], (("a", 1, 1, 1, (0, 7)),))
        for row in ("place a 1 shut 8", "place a 1 shut 9", "player a 1 1 1 away 7 8", "player a 1 1 1 away 9"):
            self.assert_refused(joined([*rows, row]), NoName, 9)

    def test_numbers_at_their_edges(self):
        sixty, twelve = "9" * 60, "9" * 12
        good = [
            f"crew {sixty} move 0", f"crew 0 move {twelve}", f"day {twelve} {twelve}", f"day {twelve} 0", "day 0 0",
            f"place a {sixty}", "place b 0", f"player c {sixty} {sixty} 1", f"player d {sixty} 0 8", "player e 0 0 5",
            f"scene f a {twelve} sun", "scene g a 1 moon",
        ]
        self.assertEqual(read_book(joined([good[0], *good[2:]]))[0], 10 ** 60 - 1)
        self.assertEqual(read_book(joined([good[1], *good[2:]]))[1], 10 ** 12 - 1)
        book = read_book(joined([good[0], *good[2:]]))
        self.assertEqual(book[2][0], (10 ** 12 - 1, 10 ** 12 - 1))
        self.assertEqual(book[3][0], ("a", 10 ** 60 - 1, ()))
        self.assertEqual(book[4][0], ("c", 10 ** 60 - 1, 10 ** 60 - 1, 1, ()))
        self.assertEqual(book[5][0][2], 10 ** 12 - 1)
        more, longer = "1" + "0" * 60, "1" + "0" * 12
        self.assert_refused(joined([f"crew {more} move 0", "day 1 1"]), NoText, 0)
        self.assert_refused(joined([f"crew 0 move {longer}", "day 1 1"]), NoText, 0)
        for row in (f"day {longer} 0", f"place z {more}", f"player z {more} 0 1", f"player z {more} {more} 1"):
            self.assert_refused(joined([*good[1:], row]), NoText, 11)
        self.assert_refused(joined([*good[1:], f"scene z a {longer} any"]), NoText, 11)


class RefusedTest(TextsTest):
    def test_what_is_no_text(self):
        for thing in (None, 0, 5, True, b"", b"crew 1 move 1\nday 1 1", (), [], {}, ["crew 1 move 1", "day 1 1"], BOOK, set()):
            self.assert_refused(thing, NoText, 0)

    def test_the_text_without_signs(self):
        self.assert_refused("", NoText, 0)

    def test_line_ends_alone(self):
        for many in (1, 2, 9):
            self.assert_refused("\n" * many, NoText, 0)

    def test_a_text_of_its_first_row_alone(self):
        self.assert_refused(ROWS[0], NoText, 1)

    def test_a_text_without_a_day(self):
        rows = ["crew 1 move 1", "place a 1", "player b 1 1 1", "scene s a 1 any b"]
        for many in range(1, 5):
            self.assert_refused(joined(rows[:many]), NoText, many)
        self.assert_refused(joined([*rows, "place a 1"]), Twice, 4)
        self.assert_refused(joined([*rows, "place c 1 shut 0"]), NoName, 4)
        self.assert_refused(joined([*rows, "place c"]), NoText, 4)

    def test_a_line_end_at_the_end_makes_a_row_more(self):
        self.assert_refused(joined(ROWS) + "\n", NoText, 11)
        self.assert_refused(ROWS[0] + "\n", NoText, 1)
        self.assert_refused("\n" + joined(ROWS), NoText, 0)

    def test_signs_that_are_no_line_ends(self):
        for sign in ("\r", "\v", "\f", "\x1c", "\x85", "\u2028", "|", ";", "%", "\t", " "):
            self.assert_refused("crew 1 move 1" + sign + "day 1 1", NoText, 0)
            self.assert_refused("crew 1 move 1" + sign + "\nday 1 1", NoText, 0)
            self.assert_refused("crew 1 move 1\nday 1 1" + sign, NoText, 1)
            self.assert_refused("crew 1 move 1\nday 1 1" + sign + "\nday 1 1", NoText, 1)

    def test_wrong_first_rows(self):
        for row in WRONG_FIRST_ROWS:
            self.assert_refused(row, NoText, 0)
            self.assert_refused(joined([row, *ROWS[1:]]), NoText, 0)
            self.assert_refused(joined([row, *ROWS]), NoText, 0)
            self.assert_refused(joined([row, "x"]), NoText, 0)

    def test_wrong_rows_anywhere_behind_the_first(self):
        for row in WRONG_ROWS:
            for at in (1, 2, 6, 10, 11):
                self.assert_refused(put_in(at, row), NoText, at)

    def test_names_told_again(self):
        for row in AGAIN_ROWS:
            self.assert_refused(put_in(11, row), Twice, 11)
            self.assert_refused(joined([*ROWS, row, "day 1 1"]), Twice, 11)
        self.assert_refused(put_in(5, "place harbour 1"), Twice, 5)
        self.assert_refused(put_in(4, "place harbour 1"), Twice, 5)
        self.assert_refused(put_in(7, "player ada 1 1 1"), Twice, 7)
        self.assert_refused(put_in(9, "scene open attic 1 sun"), Twice, 9)
        self.assert_refused(put_in(1, "scene kiss attic 3 sun ada ada"), Twice, 1)

    def test_names_that_no_row_ahead_tells(self):
        for row in STRANGE_ROWS:
            for at in (1, 6, 11):
                self.assert_refused(put_in(at, row), NoName, at)
            self.assert_refused(joined([*ROWS, row, "day 1 1"]), NoName, 11)

    def test_rows_that_come_too_soon(self):
        self.assert_refused(put_in(1, "scene kiss harbour 1 moon"), NoName, 1)
        self.assert_refused(put_in(4, "scene kiss harbour 1 moon"), NoName, 4)
        self.assert_refused(put_in(5, "scene kiss harbour 1 moon ada"), NoName, 5)
        self.assert_refused(put_in(3, "place wood 1 shut 2"), NoName, 3)
        self.assert_refused(put_in(3, "player cy 1 1 1 away 0 1 2"), NoName, 3)
        read_book(put_in(3, "place wood 1 shut 1"))
        read_book(put_in(5, "scene kiss harbour 1 moon"))

    def test_several_faults_in_one_row(self):
        both = (
            ("place attic x shut 9", NoText), ("place attic 5 shut", NoText), ("place attic 5 shut 9 8", NoText),
            ("player ada 1 2 1", NoText), ("player ada 2 1 9 away 9", NoText), ("player ada 2 1 1 away 9", Twice),
            ("scene open nowhere 0 sun ada ada", NoText), ("scene open nowhere 3 sky nobody", NoText),
            ("scene kiss attic 3 sun ada ada Bo", NoText), ("scene open nowhere 3 sun nobody", Twice),
            ("scene kiss nowhere 3 sun bo nobody bo", Twice), ("scene kiss nowhere 3 sun bo nobody", NoName),
        )
        for row, kind in both:
            self.assert_refused(put_in(11, row), kind, 11)

    def test_the_first_of_several_wrong_rows_is_told(self):
        kinds = ((NoText, "place wood"), (Twice, "scene kiss attic 3 sun bo bo"), (NoName, "scene kiss moor 3 sun"))
        for (first, row), (_, later) in itertools.product(kinds, repeat=2):
            for at, behind in ((1, 1), (1, 11), (6, 8), (11, 11)):
                rows = [*ROWS[:at], row, *ROWS[at:]]
                self.assert_refused(joined([*rows[: behind + 1], later, *rows[behind + 1:]]), first, at)

    def test_a_wrong_row_goes_ahead_of_a_missing_day(self):
        self.assert_refused("crew 1 move 1\nplace a 1\nplace a 1", Twice, 2)
        self.assert_refused("crew 1 move 1\nplace a 1\nscene a b 1 sun", NoName, 2)
        self.assert_refused("crew 1 move 1\n\nplace a 1", NoText, 1)


def written(row):
    """Whether a row behind the first one is written as the document says, by itself."""
    name, money, hours, days = "[a-z]{1,8}", "(0|[1-9][0-9]{0,59})", "(0|[1-9][0-9]{0,11})", "( [0-9])+"
    found = re.fullmatch(f"day {hours} {hours}", row)
    if found:
        return int(found[2]) <= int(found[1])
    found = re.fullmatch(f"player {name} {money} {money} [1-8]( away{days})?", row)
    if found and int(found[2]) > int(found[1]):
        return False
    if found or re.fullmatch(f"place {name} {money}( shut{days})?", row):
        days = row.split(" ")[6 if found else 4:]
        return days == sorted(set(days))
    return bool(re.fullmatch(f"scene {name} {name} [1-9][0-9]{{0,11}} (sun|moon|any)( {name})*", row))


def faults(rows):
    """(row, class) of the first wrong row of a text whose first row is right, by the document's words, or None."""
    told = {"day": [], "place": [], "player": [], "scene": []}
    most = {"day": 8, "place": 6, "player": 6, "scene": 8}
    for at, row in enumerate(rows[1:], 1):
        kind, *words = row.split(" ")
        if not written(row) or len(told[kind]) == most[kind]:
            return at, NoText
        cast = words[4:] if kind == "scene" else []
        if kind != "day" and words[0] in told[kind] or len(set(cast)) < len(cast):
            return at, Twice
        days = {"place": words[3:], "player": words[5:]}.get(kind, [])
        if any(int(day) >= len(told["day"]) for day in days):
            return at, NoName
        if kind == "scene" and (words[1] not in told["place"] or not set(cast) <= set(told["player"])):
            return at, NoName
        told[kind].append(words[0])
    return None if told["day"] else (len(rows), NoText)


class SpoiledTest(TextsTest):
    """Texts of many books, spoiled by chance, held against the document's words."""

    def spoil(self, rows, chance):
        at = chance.randrange(1, len(rows))
        way = chance.randrange(6)
        if way == 0:
            other = chance.randrange(1, len(rows))
            rows[at], rows[other] = rows[other], rows[at]
        elif way == 1:
            rows.insert(chance.randrange(1, len(rows) + 1), rows[at])
        elif way == 2:
            del rows[at]
        else:
            words = rows[at].split(" ")
            spot = chance.randrange(len(words))
            new = chance.choice(("", "0", "1", "2", "8", "9", "05", "ada", "attic", "open", "shut", "away", "sun", "Q"))
            if way == 3:
                words[spot] = new
            elif way == 4:
                words.insert(spot + 1, new)
            else:
                del words[spot]
            rows[at] = " ".join(words)
        return rows

    def test_spoiled_texts(self):
        seen = {}
        for seed in range(3000):
            chance = random.Random(seed)
            rows = show_book(random_book(seed % 60, 1 + seed % 4, 3, 3, 4)).split("\n")
            for _ in range(chance.randint(1, 3)):
                if len(rows) > 1:
                    rows = self.spoil(rows, chance)
            text, wanted = joined(rows), faults(rows)
            seen[wanted and wanted[1]] = True
            if wanted is None:
                with self.subTest(text=text):
                    self.assertEqual(read_book(text), book_of(*read_book(text)))
                    self.assertEqual(read_book(show_book(read_book(text))), read_book(text))
            else:
                self.assert_refused(text, wanted[1], wanted[0])
        self.assertEqual(set(seen), {None, NoText, Twice, NoName})


if __name__ == "__main__":
    unittest.main()
