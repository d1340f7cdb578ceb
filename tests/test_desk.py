import random
import re
import unittest

from shootdays.desk import Desk
from shootdays.errors import NoName, NoRow, ShootError, TooWide, Twice
from shootdays.texts import read_book, show_book
from tests.helper import (
    bound_in, calls_in, cost_in, fits, full_cases, has_slip, hours_of, least_cost, random_book, reason_of,
)

ROWS = [
    "crew 500 move 2", "day 10 6", "day 0 0", "day 12 12", "place harbour 40", "place attic 7 shut 1",
    "player ada 90 30 2 away 1", "player bo 50 20 8", "scene chase harbour 3 sun ada bo", "scene kiss attic 2 any",
    "scene storm harbour 4 moon ada",
]
TEXT = "\n".join(ROWS)


def desk_of(*rows):
    """A desk that was told these rows, all of them deeds."""
    desk = Desk()
    for row in rows:
        if desk.say(row) != "ok":
            raise AssertionError(row)
    return desk


class TellsTest(unittest.TestCase):
    """What a desk tells and refuses."""

    def assert_told(self, desk, *pairs):
        for row, told in pairs:
            answer = desk.say(row)
            self.assertEqual(answer, told, row)
            self.assertIs(type(answer), str)

    def assert_refused(self, desk, kind, *rows):
        before = state(desk)
        for row in rows:
            with self.assertRaises(ShootError) as caught:
                desk.say(row)
            self.assertIs(type(caught.exception), kind, row)
            if kind in (Twice, NoName):
                self.assertEqual(caught.exception.row, 0)
            self.assertEqual(state(desk), before, row)


def state(desk):
    """What a desk tells of itself by questions, or that no book, or none with a day, stands."""
    told = []
    for row in ("show", "left", "cost", "bound", "blocked", "order 0", "sheet 0", "best"):
        try:
            told.append(desk.say(row))
        except ShootError as refused:
            told.append(type(refused))
    return told


class BookTest(TellsTest):
    def test_told_row_by_row_and_shown(self):
        desk = desk_of(*ROWS)
        self.assert_told(desk, ("show", TEXT), ("left", "chase kiss storm"), ("show", TEXT))
        self.assertEqual(show_book(read_book(desk.say("show"))), TEXT)

    def test_rows_in_another_order(self):
        desk = desk_of("crew 1 move 0", "day 9 9", "place a 1 shut 0", "player b 2 1 1", "day 8 0", "scene c a 1 any b",
                       "player d 1 0 8 away 0 1", "place e 0", "scene f e 1 sun d b")
        self.assert_told(desk, ("show", "crew 1 move 0\nday 9 9\nday 8 0\nplace a 1 shut 0\nplace e 0\nplayer b 2 1 1\n"
                                        "player d 1 0 8 away 0 1\nscene c a 1 any b\nscene f e 1 sun d b"))

    def test_a_book_of_days_alone(self):
        desk = desk_of("crew 5 move 1", "day 9 9")
        self.assert_told(
            desk, ("show", "crew 5 move 1\nday 9 9"), ("left", "none"), ("cost", "0"), ("bound", "0"), ("blocked", "no"),
            ("order 0", "none"), ("sheet 0", "day 0 9 9"), ("best", "0"),
        )

    def test_many_books(self):
        for seed in range(60):
            book = random_book(seed, days=1 + seed % 8, places=1 + seed % 6, players=seed % 7, scenes=seed % 9)
            desk = desk_of(*show_book(book).split("\n"))
            self.assert_told(desk, ("show", show_book(book)), ("cost", "0"))

    def test_a_new_scene_is_not_laid(self):
        desk = desk_of(*ROWS, "lay kiss 0", "lay chase 2", "lay storm 2")
        self.assert_told(desk, ("left", "none"), ("scene duel attic 1 any", "ok"), ("left", "duel"))
        self.assert_told(desk, ("day 5 5", "ok"), ("left", "duel"), ("place wood 1", "ok"), ("left", "duel"))

    def test_a_book_begun_anew_is_empty(self):
        desk = desk_of(*ROWS, "lay kiss 0", "crew 7 move 0")
        self.assert_refused(desk, NoRow, "show", "left", "lay kiss 0", "place a 1")
        self.assert_told(desk, ("day 3 3", "ok"), ("show", "crew 7 move 0\nday 3 3"), ("left", "none"), ("cost", "0"))


class DeedTest(TellsTest):
    def test_lay_and_take(self):
        desk = desk_of(*ROWS)
        self.assert_told(
            desk, ("lay kiss 0", "ok"), ("left", "chase storm"), ("order 0", "kiss"), ("lay kiss 2", "ok"),
            ("order 0", "none"), ("order 2", "kiss"), ("take kiss", "ok"), ("left", "chase kiss storm"), ("take kiss", "ok"),
            ("left", "chase kiss storm"), ("order 2", "none"), ("show", TEXT),
        )

    def test_laid_where_it_is_blocked(self):
        desk = desk_of(*ROWS)
        self.assert_told(
            desk, ("lay kiss 1", "ok"), ("blocked", "shut kiss 1"), ("lay chase 1", "ok"), ("blocked", "shut kiss 1"),
            ("take kiss", "ok"), ("blocked", "away ada 1"), ("lay chase 0", "ok"), ("blocked", "no"), ("lay kiss 0", "ok"),
            ("lay storm 0", "ok"), ("blocked", "full 0"), ("order 0", "full"), ("sheet 0", "full"), ("best", "none"),
        )

    def test_tired(self):
        desk = desk_of("crew 1 move 0", "day 9 9", "day 9 9", "place a 1", "player b 2 1 1", "scene c a 1 any b",
                       "scene d a 1 any b", "lay c 0", "lay d 1")
        self.assert_told(desk, ("blocked", "tired b 1"))

    def test_lose(self):
        desk = desk_of(*ROWS, "lay kiss 0", "lay chase 0", "lay storm 2")
        self.assert_told(
            desk, ("lose 0", "ok"), ("left", "chase kiss"), ("show", TEXT.replace("day 10 6", "day 0 0")),
            ("order 2", "full"), ("lose 0", "ok"), ("left", "chase kiss"), ("sheet 0", "day 0 0 0"),
            ("lay kiss 0", "ok"), ("blocked", "full 0"), ("lose 2", "ok"), ("left", "chase storm"),
            ("show", TEXT.replace("day 10 6", "day 0 0").replace("day 12 12", "day 0 0")),
        )

    def test_undo_of_each_deed(self):
        for deed in ("crew 1 move 1", "day 3 3", "place wood 1", "player cy 3 3 3", "scene duel attic 1 any ada", "lay kiss 2",
                     "lay storm 0", "lay chase 2", "take kiss", "take storm", "lose 0", "lose 1", "lose 2"):
            desk = desk_of(*ROWS, "lay kiss 0", "lay chase 2")
            before = state(desk)
            self.assert_told(desk, (deed, "ok"), ("undo", "ok"))
            self.assertEqual(state(desk), before)
            # That deed is gone, and the ones ahead are left.
            self.assert_told(desk, ("undo", "ok"), ("left", "chase storm"), ("undo", "ok"), ("left", "chase kiss storm"))

    def test_undo_to_the_first_and_nothing_behind(self):
        desk = desk_of(*ROWS)
        for row in reversed(ROWS):
            self.assert_told(desk, ("undo", "ok"))
        self.assert_refused(desk, NoRow, "undo", "show", "day 5 5", "undo")
        self.assert_told(desk, (ROWS[0], "ok"), (ROWS[1], "ok"), ("show", "\n".join(ROWS[:2])))

    def test_undo_row_by_row(self):
        desk = desk_of(*ROWS)
        for many in range(len(ROWS) - 1, 1, -1):
            self.assert_told(desk, ("undo", "ok"))
            self.assert_told(desk, ("show", show_book(read_book("\n".join(ROWS[:many])))))

    def test_what_is_undone_does_not_come_again(self):
        desk = desk_of(*ROWS, "lay kiss 0", "lay kiss 2")
        self.assert_told(desk, ("undo", "ok"), ("order 0", "kiss"), ("undo", "ok"), ("order 0", "none"), ("left", "chase kiss storm"))
        self.assert_told(desk, ("lay storm 2", "ok"), ("undo", "ok"), ("left", "chase kiss storm"), ("undo", "ok"))
        self.assert_told(desk, ("left", "chase kiss"))

    def test_undo_through_a_book_begun_anew(self):
        desk = desk_of(*ROWS, "lay kiss 0", "crew 7 move 0", "day 3 3", "crew 8 move 0", "day 4 4")
        self.assert_told(desk, ("show", "crew 8 move 0\nday 4 4"), ("undo", "ok"))
        self.assert_refused(desk, NoRow, "show")
        self.assert_told(desk, ("undo", "ok"), ("show", "crew 7 move 0\nday 3 3"), ("undo", "ok"), ("undo", "ok"))
        self.assert_told(desk, ("show", TEXT), ("order 0", "kiss"), ("left", "chase storm"))

    def test_questions_and_refusals_are_no_deeds(self):
        desk = desk_of(*ROWS, "lay kiss 0")
        state(desk)
        self.assert_refused(desk, NoName, "lay x 0", "take x")
        self.assert_refused(desk, NoRow, "lay kiss", "")
        self.assert_told(desk, ("undo", "ok"), ("left", "chase kiss storm"))

    def test_a_deed_that_changes_nothing_is_undone_too(self):
        desk = desk_of(*ROWS, "lay kiss 0", "lay kiss 0", "take chase")
        self.assert_told(desk, ("undo", "ok"), ("order 0", "kiss"), ("undo", "ok"), ("order 0", "kiss"), ("undo", "ok"))
        self.assert_told(desk, ("order 0", "none"))


class QuestionTest(TellsTest):
    def setUp(self):
        self.desk = desk_of(*ROWS, "lay storm 0", "lay chase 0", "lay kiss 2")

    def test_each_question(self):
        self.assert_told(
            self.desk, ("show", TEXT), ("left", "none"), ("cost", str(1000 + 40 + 7 + 90 + 50)), ("bound", "1187"),
            ("blocked", "no"), ("pay ada", "0 0 1 0 90"), ("pay bo", "0 0 1 0 50"), ("order 0", "chase storm"),
            ("order 1", "none"), ("order 2", "kiss"), ("sheet 1", "day 1 0 0"), ("sheet 2", "day 2 12 12\n0 2 attic kiss"),
            ("sheet 0", "day 0 10 6\n0 3 harbour chase ada bo\n6 10 harbour storm ada"), ("best", "1187 0 2 0"),
        )

    def test_pay_of_one_who_waits_and_of_one_who_is_not_called(self):
        self.assert_told(self.desk, ("lay storm 2", "ok"), ("pay ada", "0 2 2 1 210"), ("take chase", "ok"),
                         ("pay ada", "2 2 1 0 90"), ("pay bo", "none"))

    def test_the_bound_of_some_laid(self):
        # The harbour and both players are missing, and one day is due, which is there.
        self.assert_told(self.desk, ("take storm", "ok"), ("take chase", "ok"), ("cost", "507"), ("bound", str(507 + 40 + 140)))

    def test_best_of_nothing_laid_and_of_some(self):
        desk = desk_of(*ROWS)
        cost, *days = desk.say("best").split(" ")
        book = read_book(TEXT)
        self.assertEqual(int(cost), least_cost(book, full_cases((None,) * 3, (0, 1, 2))))
        case = tuple(map(int, days))
        self.assertIsNone(reason_of(book, case))
        self.assertEqual(cost_in(book, case), int(cost))
        # What is laid stays there, and asking lays nothing.
        self.assert_told(desk, ("left", "chase kiss storm"), ("lay kiss 2", "ok"))
        self.assertEqual(desk.say("best").split(" ")[2], "2")
        self.assert_told(desk, ("left", "chase storm"), ("lay chase 1", "ok"), ("best", "none"))

    def test_scenes_called_none_full_no_and_left(self):
        desk = desk_of("crew 1 move 0", "day 9 9", "place a 1", "scene none a 1 any", "scene full a 2 any", "scene no a 3 any",
                       "scene left a 3 any")
        self.assert_told(
            desk, ("left", "none full no left"), ("order 0", "none"), ("lay full 0", "ok"), ("order 0", "full"),
            ("left", "none no left"), ("sheet 0", "day 0 9 9\n0 2 a full"), ("take full", "ok"), ("lay none 0", "ok"),
            ("order 0", "none"), ("sheet 0", "day 0 9 9\n0 1 a none"), ("lay full 0", "ok"), ("lay no 0", "ok"),
            ("left", "left"), ("best", "2 0 0 0 0"), ("lay left 0", "ok"), ("left", "none"), ("blocked", "no"),
        )
        self.assertEqual(sorted(desk.say("order 0").split(" ")), ["full", "left", "no", "none"])

    def test_names_that_are_words_of_rows(self):
        desk = desk_of("crew 1 move 0", "day 9 9", "place shut 1 shut 0", "place place 1", "player away 5 1 1 away 0",
                       "player crew 5 1 1", "scene undo shut 1 any", "scene scene place 1 any crew", "lay undo 0")
        self.assert_told(desk, ("blocked", "shut undo 0"), ("take undo", "ok"), ("lay scene 0", "ok"), ("pay crew", "0 0 1 0 5"),
                         ("left", "undo"), ("blocked", "no"))

    def test_five_and_six_on_a_day(self):
        rows = [f"scene {name} a 1 any" for name in "bcdefg"]
        desk = desk_of("crew 1 move 0", "day 9 9", "place a 1", *rows, *[f"lay {name} 0" for name in "bcdef"])
        self.assertEqual(sorted(desk.say("order 0").split(" ")), list("bcdef"))
        self.assert_told(desk, ("blocked", "no"), ("lay g 0", "ok"), ("order 0", "full"), ("sheet 0", "full"),
                         ("blocked", "full 0"), ("best", "none"))

    def test_money_of_sixty_figures(self):
        most = "9" * 60
        desk = desk_of(f"crew {most} move 0", "day 9 9", f"place a {most}", f"player b {most} {most} 8", "scene c a 1 any b")
        self.assert_told(desk, ("bound", str(3 * int(most))), ("best", f"{3 * int(most)} 0"), ("lay c 0", "ok"),
                         ("cost", str(3 * int(most))))

    def test_the_same_asked_again_is_told_the_same(self):
        self.assertEqual(state(self.desk), state(self.desk))


class RefusedTest(TellsTest):
    def test_where_no_book_stands(self):
        desk = Desk()
        self.assert_refused(desk, NoRow, "show", "undo", "day 9 9", "place a 1", "player a 1 1 1", "scene a b 1 any", "lay a 0",
                            "take a", "lose 0", "left", "cost", "bound", "blocked", "pay a", "order 0", "sheet 0", "best",
                            "", "crew", "crew 1", "crew 1 move", "crew 1 move x", None, 5)
        self.assert_told(desk, ("crew 1 move 1", "ok"))

    def test_where_the_book_has_no_day(self):
        desk = desk_of("crew 1 move 1")
        self.assert_refused(desk, NoRow, "show", "place a 1", "player a 1 1 1", "scene a b 1 any", "lay a 0", "take a", "lose 0",
                            "left", "cost", "bound", "blocked", "pay a", "order 0", "sheet 0", "best", "day", "undo undo")
        self.assert_told(desk, ("crew 2 move 2", "ok"), ("undo", "ok"), ("day 9 9", "ok"), ("show", "crew 1 move 1\nday 9 9"))

    def test_what_is_no_text(self):
        for desk in (Desk(), desk_of("crew 1 move 1"), desk_of(*ROWS)):
            self.assert_refused(desk, NoRow, None, 0, 5, True, b"show", ["show"], ("show",), {}, ("undo",))

    def test_rows_that_are_none(self):
        desk = desk_of(*ROWS)
        self.assert_refused(
            desk, NoRow, "", " ", "x", "Show", "SHOW", "show ", " show", "show show", "show 0", "left x", "cost 0", "bound 0",
            "blocked 0", "best 0", "best x", "undo x", "undo 1", "undo ", "redo", "lay", "lay kiss", "lay kiss 0 0", "lay 0 kiss",
            "lay kiss x", "lay kiss 00", "lay kiss 10", "lay kiss -1", "lay kiss +1", "lay kiss 01", "lay kiss ", "lay  kiss 0",
            "lay Kiss 0", "lay kissesall 0", "lay k1 0", "take", "take kiss 0", "take kiss kiss", "take 0", "take Kiss", "take ",
            "lose", "lose x", "lose 00", "lose 12", "lose 0 0", "lose kiss", "lose ", "pay", "pay ada 0", "pay ada bo", "pay 0",
            "pay Ada", "order", "order x", "order 0 0", "order 10", "order kiss", "sheet", "sheet x", "sheet 0 1", "sheet 10",
            "show\n", "show\nshow", "lay kiss 0\n", "lay\tkiss 0", "undo\n", "days", "day 9 9\n", "\n", "%", "laykiss 0",
        )

    def test_rows_of_a_book_that_are_none(self):
        desk = desk_of(*ROWS)
        self.assert_refused(
            desk, NoRow, "crew", "crew 1", "crew 1 move", "crew 1 move 1 1", "crew x move 1", "crew 1 mov 1", "crew 01 move 1",
            "crew " + "9" * 61 + " move 0", "crew 1 move " + "9" * 13, "crew 1 move -1", "crew 1 move 1\nday 9 9",
            "day", "day 9", "day 9 10", "day 9 9 9", "day x 9", "day 09 9", "day 9 9 ", "day " + "9" * 13 + " 0",
            "place", "place wood", "place Wood 1", "place wood x", "place wood 1 shut", "place wood 1 shut 1 1",
            "place wood 1 shut 2 1", "place wood 1 away 1", "place wood 1 shut x", "place wood 1 shut 10", "place wood 1 2",
            "player cy", "player cy 1", "player cy 1 1", "player cy 1 2 1", "player cy 1 1 0", "player cy 1 1 9", "player cy 1 1 x",
            "player cy 1 1 1 away", "player cy 1 1 1 away 2 0", "player cy 1 1 1 shut 0", "player cy 1 1 1 0",
            "scene duel attic 1", "scene duel attic 0 any", "scene duel attic 1 dark", "scene duel attic x any",
            "scene Duel attic 1 any", "scene duel Attic 1 any", "scene duel attic 1 any Ada", "scene duel attic 1 any ",
            "scene duel attic 1 any 0", "scene duel attic", "scene",
        )

    def test_too_many_of_a_part(self):
        rows = ["crew 1 move 1"] + ["day 9 9"] * 8 + [f"place {name} 1" for name in "abcdef"]
        rows += [f"player {name} 1 1 1" for name in "abcdef"] + [f"scene {name} a 1 any" for name in "abcdefgh"]
        desk = desk_of(*rows)
        # Ahead of Twice and NoName, too.
        self.assert_refused(desk, NoRow, "day 9 9", "place g 1", "place a 1", "place a 1 shut 9", "player g 1 1 1",
                            "player a 1 1 1", "player a 1 1 1 away 8", "scene i a 1 any", "scene a a 1 any", "scene a x 1 any x x")
        self.assert_told(desk, ("crew 1 move 1", "ok"), ("day 9 9", "ok"))

    def test_the_last_of_each_part_is_taken(self):
        desk = desk_of("crew 1 move 1", *["day 9 9"] * 7, *[f"place {name} 1" for name in "abcde"],
                       *[f"player {name} 1 1 1" for name in "abcde"], *[f"scene {name} a 1 any" for name in "abcdefg"])
        self.assert_told(desk, ("day 9 9", "ok"), ("place f 1", "ok"), ("player f 1 1 1", "ok"), ("scene h f 1 any f", "ok"))

    def test_twice(self):
        desk = desk_of(*ROWS)
        self.assert_refused(desk, Twice, "place attic 1", "player ada 1 1 1", "scene kiss attic 1 any",
                            "scene duel attic 1 any ada ada", "scene duel attic 1 any ada bo ada")
        # A place, a player and a scene may have one name.
        self.assert_told(desk, ("place kiss 1", "ok"), ("place ada 1", "ok"), ("player attic 1 1 1", "ok"),
                         ("scene ada ada 1 any", "ok"))

    def test_twice_goes_ahead_of_no_name(self):
        desk = desk_of(*ROWS)
        self.assert_refused(desk, Twice, "place attic 1 shut 3", "place attic 1 shut 9", "player ada 1 1 1 away 8",
                            "scene kiss x 1 any", "scene kiss attic 1 any x", "scene duel x 1 any ada ada",
                            "scene duel attic 1 any x x")

    def test_no_name(self):
        desk = desk_of(*ROWS)
        self.assert_refused(
            desk, NoName, "place wood 1 shut 3", "place wood 1 shut 0 8", "place wood 1 shut 9", "player cy 1 1 1 away 3",
            "player cy 1 1 1 away 9", "scene duel wood 1 any", "scene duel attic 1 any cy", "scene duel attic 1 any ada cy",
            "scene duel ada 1 any", "scene duel attic 1 any attic", "lay duel 0", "lay kiss 3", "lay kiss 9", "lay duel 9",
            "lay ada 0", "take duel", "take attic", "lose 3", "lose 8", "pay cy", "pay kiss", "order 3", "order 9", "sheet 3",
            "sheet 8",
        )

    def test_no_row_goes_ahead_of_no_name(self):
        desk = desk_of(*ROWS)
        self.assert_refused(desk, NoRow, "lay duel 10", "lay duel x", "lay Duel 9", "lay duel", "pay cy cy", "order 9 9",
                            "scene duel wood 0 any", "scene kiss wood 1 dark ada ada", "place attic 1 shut", "place attic x shut 9")

    def test_too_wide(self):
        rows = ["crew 1 move 0"] + ["day 9 9"] * 4 + ["place a 1"] + [f"scene {name} a 1 any" for name in "abcde"]
        desk = desk_of(*rows)
        with self.assertRaises(TooWide) as caught:
            desk.say("best")
        self.assertEqual(caught.exception.cases, 1024)
        self.assert_refused(desk, TooWide, "best")
        self.assert_refused(desk, NoRow, "best 0")
        self.assert_told(desk, ("left", "a b c d e"), ("lay c 1", "ok"), ("best", "2 1 1 1 1 1"))
        # The days count, not those that have hours.
        self.assert_told(desk, ("take c", "ok"), ("lose 0", "ok"), ("lose 1", "ok"))
        self.assert_refused(desk, TooWide, "best")

    def test_a_wide_plain_book_that_is_told(self):
        desk = desk_of("crew 1 move 0", *["day 9 9"] * 3, "place a 1", *[f"scene {name} a 3 any" for name in "abcdef"])
        self.assertEqual(desk.say("best").split(" ")[0], "4")


class TwoDesksTest(TellsTest):
    def test_side_by_side(self):
        one, other = Desk(), Desk()
        for row in ROWS:
            self.assert_told(one, (row, "ok"))
        self.assert_refused(other, NoRow, "show", "undo")
        self.assert_told(other, ("crew 1 move 1", "ok"), ("day 3 3", "ok"))
        self.assert_told(one, ("lay kiss 0", "ok"), ("show", TEXT))
        self.assert_told(other, ("show", "crew 1 move 1\nday 3 3"), ("left", "none"), ("undo", "ok"), ("undo", "ok"))
        self.assert_refused(other, NoRow, "undo")
        self.assert_told(one, ("order 0", "kiss"), ("undo", "ok"), ("left", "chase kiss storm"))

    def test_say_stands_in_the_class_itself(self):
        self.assertIn("say", vars(Desk))


NAME, MONEY, HOURS = "[a-z]{1,8}", "(?:0|[1-9][0-9]{0,59})", "(?:0|[1-9][0-9]{0,11})"
FORMS = {
    "crew": f"crew ({MONEY}) move ({HOURS})", "day": f"day ({HOURS}) ({HOURS})",
    "place": f"place ({NAME}) ({MONEY})(?: shut((?: [0-9])+))?",
    "player": f"player ({NAME}) ({MONEY}) ({MONEY}) ([1-8])(?: away((?: [0-9])+))?",
    "scene": f"scene ({NAME}) ({NAME}) ({HOURS}) (sun|moon|any)((?: {NAME})*)",
    "lay": f"lay ({NAME}) ([0-9])", "take": f"take ({NAME})", "lose": "lose ([0-9])", "pay": f"pay ({NAME})",
    "order": "order ([0-9])", "sheet": "sheet ([0-9])", "undo": "undo", "show": "show", "left": "left", "cost": "cost",
    "bound": "bound", "blocked": "blocked", "best": "best",
}
PARTS = {"day": (2, 8), "place": (3, 6), "player": (4, 6), "scene": (5, 8)}


class Model:
    """A desk by the document's words."""

    def __init__(self):
        self.book, self.case, self.past = None, (), []

    def row_of(self, word, found):
        """The row of a book's part, or None where a number in it is not such as it should be."""
        if word == "day":
            row = (int(found[0]), int(found[1]))
            return row if row[1] <= row[0] else None
        days = tuple(map(int, (found[-1] or "").split())) if word != "scene" else ()
        if any(one >= two for one, two in zip(days, days[1:])):
            return None
        if word == "place":
            return (found[0], int(found[1]), days)
        if word == "player":
            row = (found[0], int(found[1]), int(found[2]), int(found[3]), days)
            return row if row[2] <= row[1] else None
        return (found[0], found[1], int(found[2]), found[3], tuple(found[4].split())) if int(found[2]) else None

    def refusal(self, text):
        """The class with which a text is refused, or None."""
        word = text.split(" ")[0]
        match = re.fullmatch(FORMS.get(word, "(?!)"), text)
        if match is None or (self.book is None and word != "crew"):
            return NoRow
        if word not in ("crew", "day", "undo") and not self.book[2]:
            return NoRow
        if word in PARTS:
            return self.row_refusal(word, self.row_of(word, match.groups()))
        names = [row[0] for row in self.book[4 if word == "pay" else 5]] if self.book else []
        for found in match.groups() if word != "crew" else ():
            if int(found) >= len(self.book[2]) if found.isdigit() else found not in names:
                return NoName
        if word == "best" and len(self.book[2]) ** self.case.count(None) > 1000:
            return TooWide
        return None

    def row_refusal(self, word, row):
        part, most = PARTS[word]
        if row is None or len(self.book[part]) == most:
            return NoRow
        if word == "day":
            return None
        if row[0] in [other[0] for other in self.book[part]] or (word == "scene" and len(set(row[4])) < len(row[4])):
            return Twice
        if word != "scene":
            return NoName if any(day >= len(self.book[2]) for day in row[-1]) else None
        places, players = ([other[0] for other in self.book[at]] for at in (3, 4))
        return NoName if row[1] not in places or any(name not in players for name in row[4]) else None

    def deed(self, text):
        """Does the deed of a text that isn't refused; tells whether it was one."""
        word = text.split(" ")[0]
        found = re.fullmatch(FORMS[word], text).groups()
        if word == "undo":
            self.book, self.case = self.past.pop()
            return True
        book, case = self.book, list(self.case)
        if word == "crew":
            book, case = (int(found[0]), int(found[1]), (), (), (), ()), []
        elif word in PARTS:
            part = PARTS[word][0]
            book = (*book[:part], (*book[part], self.row_of(word, found)), *book[part + 1:])
            case += [None] * (word == "scene")
        elif word in ("lay", "take"):
            at = [row[0] for row in book[5]].index(found[0])
            case[at] = int(found[1]) if word == "lay" else None
        elif word == "lose":
            day = int(found[0])
            book = (*book[:2], (*book[2][:day], (0, 0), *book[2][day + 1:]), *book[3:])
            case = [None if own == day else own for own in case]
        else:
            return False
        self.past.append((self.book, self.case))
        self.book, self.case = book, tuple(case)
        return True


def random_row(chance):
    """A row by chance, often one that is taken."""
    name, place, player = chance.choice("abcde"), chance.choice("pq"), chance.choice("xy")
    days = sorted(chance.sample(range(4), chance.randint(0, 2)))
    marked = [" ".join(map(str, [mark, *days])) if days else "" for mark in ("shut", "away")]
    cast = " ".join(chance.choices("xxyyz", k=chance.choice((0, 1, 1, 2))))
    day, hours = chance.randrange(4), chance.randint(0, 12)
    row = chance.choice((
        f"day {hours} {chance.randint(0, hours)}", f"place {place} {chance.randint(0, 50)} {marked[0]}",
        f"player {player} {chance.randint(5, 50)} {chance.randint(0, 6)} {chance.randint(1, 3)} {marked[1]}",
        *[f"scene {name} {place} {chance.randint(1, 4)} {chance.choice(('sun', 'moon', 'any', 'any'))} {cast}"] * 3,
        *[f"lay {name} {day}"] * 4, f"take {name}", f"pay {player}", f"order {day}", f"sheet {day}", "undo", "show", "left",
        "cost", "bound", "blocked", "best",
    )).strip()
    odd = chance.random()
    if odd < 0.02:
        row = f"crew {chance.randint(0, 99)} move {chance.randint(0, 2)}"
    elif odd < 0.04:
        row = f"lose {day}"
    elif odd < 0.1:
        words = row.split(" ")
        words[chance.randrange(len(words))] = chance.choice(("", "x", "0", "01", "9", "X", "shut", "any"))
        row = " ".join(words)
    return row


class WalkTest(unittest.TestCase):
    """Long talks with a desk, beside the model."""

    def assert_answer(self, model, row, told):
        """What is told is right by the document's words, and is told of the model's book and case."""
        book, case = model.book, model.case
        word, *rest = row.split(" ")
        names = [scene[0] for scene in book[5]]
        if word == "show":
            return self.assertEqual(told, show_book(book))
        if word == "left":
            return self.assertEqual(told, " ".join(name for name, day in zip(names, case) if day is None) or "none")
        if word in ("cost", "bound"):
            return self.assertEqual(told, str(cost_in(book, case) if word == "cost" else bound_in(book, case)))
        if word == "blocked":
            return self.assertEqual(told, " ".join(map(str, reason_of(book, case) or ("no",))))
        if word == "pay":
            return self.assertEqual(told, self.pay_text(book, case, rest[0]))
        if word == "best":
            return self.assert_best(book, case, told)
        return self.assert_row(book, case, word, int(rest[0]), told)

    def pay_text(self, book, case, player):
        days = calls_in(book, case, player)
        if not days:
            return "none"
        _, pay, hold, _, _ = next(row for row in book[4] if row[0] == player)
        waited = days[-1] - days[0] + 1 - len(days)
        return f"{days[0]} {days[-1]} {len(days)} {waited} {len(days) * pay + waited * hold}"

    def assert_best(self, book, case, told):
        cases = full_cases(case, range(len(book[2])))
        least = least_cost(book, cases)
        if least is None:
            return self.assertEqual(told, "none")
        cost, *days = map(int, told.split(" "))
        self.assertEqual(cost, least)
        self.assertIn(tuple(days), cases)
        self.assertIsNone(reason_of(book, tuple(days)))
        self.assertEqual(cost_in(book, tuple(days)), least)

    def assert_row(self, book, case, word, day, told):
        scenes = {scene[0]: scene for scene in book[5]}
        names = [scene[0] for scene, own in zip(book[5], case) if own == day]
        if not fits(book, day, names):
            return self.assertEqual(told, "full")
        if word == "order":
            row = told.split(" ") if names else []
            self.assertTrue(names or told == "none")
        else:
            first, *rows = told.split("\n")
            self.assertEqual(first, " ".join(map(str, ("day", day, *book[2][day]))))
            row = [line.split(" ")[3] for line in rows]
            wanted = [(start, end, scenes[name][1], name, *scenes[name][4]) for name, start, end in hours_of(book, day, row)]
            self.assertEqual(rows, [" ".join(map(str, words)) for words in wanted])
        self.assertEqual(sorted(row), sorted(names))
        self.assertFalse(has_slip(book, day, row))

    def test_long_talks(self):
        seen = {}
        for seed in range(120):
            chance = random.Random(seed)
            desk, model = Desk(), Model()
            rows = ["crew 5 move 1", "day 9 6", "day 8 0", "place p 3", "player x 9 2 2"]
            for turn in range(200):
                row = rows[turn] if turn < len(rows) and chance.random() < 0.95 else random_row(chance)
                refused = model.refusal(row)
                try:
                    told = desk.say(row)
                except ShootError as error:
                    self.assertIs(type(error), refused, (row, model.book))
                    seen[refused, row.split(" ")[0]] = True
                    continue
                self.assertIsNone(refused, (row, model.book))
                seen[row.split(" ")[0]] = True
                if model.deed(row):
                    self.assertEqual(told, "ok")
                else:
                    self.assert_answer(model, row, told)
        for word in FORMS:
            self.assertIn(word, seen)
        for kind, word in ((Twice, "scene"), (Twice, "place"), (NoName, "scene"), (NoName, "lay"), (NoName, "player"),
                           (NoName, "take"), (TooWide, "best"), (NoRow, "scene"), (NoRow, "day")):
            self.assertIn((kind, word), seen)


if __name__ == "__main__":
    unittest.main()
