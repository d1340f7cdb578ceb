"""The promise of the whole, and the names of the interface."""

import inspect
import importlib
import unittest

from shootdays.books import book_of
from shootdays.bounds import bound
from shootdays.cases import no_case
from shootdays.cheapest import cheapest
from shootdays.costs import bill, cost
from shootdays.desk import Desk
from shootdays.errors import NoSheet
from shootdays.looker import is_paper
from shootdays.lost import fewest_changed, least_mend, lost_book, mended
from shootdays.plans import case_of, fault_of, plan_of
from shootdays.sheets import calls_of, read_sheets, sheets
from shootdays.texts import read_book, show_book
from shootdays.turned import turned_book, turned_case
from tests.helper import hours_of, random_book, wrong_in_paper

TEXT = """crew 500 move 2
day 10 6
day 0 0
day 12 12
day 8 3
place harbour 40
place attic 7 shut 1
player ada 90 30 2 away 3
player bo 50 20 1
scene chase harbour 3 sun ada bo
scene kiss attic 2 any
scene storm harbour 4 moon ada
scene end attic 5 any bo"""

# Each function of the interface with its arguments.
INTERFACE = {
    "words": ("is_name(text)", "number_in(text, most)"),
    "books": ("book_of(crew, move, days, places, players, scenes)", "place_at(book, name)", "player_at(book, name)",
              "scene_at(book, name)"),
    "texts": ("show_book(book)", "read_book(text)"),
    "times": ("timed(book, day, names)", "slip(book, day, names)"),
    "orders": ("earliest(book, day, names)", "ordered(book, day, names)"),
    "cases": ("no_case(book)", "laid(case, scene, day)", "on_day(book, case, day)", "called(book, case, player)"),
    "rules": ("rules()", "blocked(book, case)", "Rule()", "Shut()", "Away()", "Full()", "Tired()"),
    "plans": ("case_of(book, plan)", "plan_of(book, case)", "fault_of(book, plan, whole=True)"),
    "costs": ("pay_of(book, case, player)", "rent_of(book, case, place)", "bill(book, case)", "cost(book, case)"),
    "bounds": ("days_due(book)", "missing(book, case)", "bound(book, case)"),
    "search": ("best(book, case, open_days)",),
    "first": ("first_fit(book)",),
    "cheapest": ("cheapest(book)",),
    "looker": ("is_paper(book, case, open_days, told, paper)",),
    "lost": ("lost_book(book, day)", "mended(book, plan, day, changed)", "least_mend(book, plan, day, many)",
             "fewest_changed(book, plan, day)"),
    "sheets": ("sheet(book, plan, day)", "sheets(book, plan)", "read_sheets(book, text)", "calls_of(book, plan, player)"),
    "turned": ("turned_book(book)", "turned_case(book, case)"),
    "desk": ("Desk()",),
}


def holds(book, plan):
    """Whether a plan holds by point 3, seen apart from the package."""
    scenes = {row[0]: row for row in book[5]}
    if sorted(name for row in plan for name in row) != sorted(scenes):
        return False
    calls = {row[0]: set() for row in book[4]}
    for day, row in enumerate(plan):
        hours, light = book[2][day]
        end_ahead = 0
        for name, start, end in hours_of(book, day, row):
            _, place, length, word, cast = scenes[name]
            if start < end_ahead or end != start + length or end > hours:
                return False
            if (word == "sun" and end > light) or (word == "moon" and start < light):
                return False
            if day in next(own[2] for own in book[3] if own[0] == place):
                return False
            for player in cast:
                calls[player].add(day)
            end_ahead = end
    for name, _, _, run, away in book[4]:
        if calls[name] & set(away):
            return False
        if any(all(day + more in calls[name] for more in range(run + 1)) for day in range(len(plan))):
            return False
    return True


class WholeTest(unittest.TestCase):
    def test_one_picture_from_its_text_to_its_sheets(self):
        book = read_book(TEXT)
        self.assertEqual(show_book(book), TEXT)
        word, least, plan, paper = cheapest(book)
        self.assertEqual(word, "cheapest")
        self.assertIsNone(fault_of(book, plan))
        self.assertTrue(holds(book, plan))
        case = case_of(book, plan)
        self.assertEqual(sum(line[-1] for line in bill(book, case)), least)
        self.assertIs(is_paper(book, no_case(book), (0, 1, 2, 3), least, paper), True)
        self.assertEqual(read_sheets(book, sheets(book, plan)), plan)
        self.assertLessEqual(bound(book, no_case(book)), least)
        # Storm needs the dark of day 0, as ada is away on day 3; with chase that day is full, and bo waits on the break.
        self.assertEqual(least, 1000 + 40 + 7 + 90 + 120)
        self.assertEqual(plan, (("chase", "storm"), (), plan[2], ()))

    def test_a_day_of_it_is_lost(self):
        book = read_book(TEXT)
        plan = cheapest(book)[2]
        for day in range(4):
            lost = lost_book(book, day)
            fewest = fewest_changed(book, plan, day)
            if fewest is None:
                self.assertEqual(cheapest(lost)[0], "none")
                continue
            told = least_mend(book, plan, day, fewest)
            self.assertTrue(holds(lost, told[2]))
            self.assertEqual(cost(lost, case_of(lost, told[2])), told[1])
            self.assertEqual(mended(book, plan, day, told[3])[1], told[1])
            # With all other days changed the mend is a cheapest plan of the book with the day lost.
            others = tuple(own for own in range(4) if own != day)
            self.assertEqual(mended(book, plan, day, others)[1], cheapest(lost)[1])

    def test_many_pictures(self):
        seen = {"cheapest": 0, "none": 0}
        for seed in range(80):
            book = random_book(seed, days=1 + seed % 4, places=1 + seed % 3, players=seed % 4, scenes=seed % 5, most=20)
            self.assertEqual(read_book(show_book(book)), book)
            told = cheapest(book)
            seen[told[0]] += 1
            days = tuple(range(len(book[2])))
            least = told[1] if told[0] == "cheapest" else None
            self.assertIsNone(wrong_in_paper(book, no_case(book), days, least, told[-1]))
            self.assertEqual(cheapest(turned_book(book))[0], told[0])
            if told[0] == "none":
                continue
            plan = told[2]
            self.assertIsNone(fault_of(book, plan))
            self.assertTrue(holds(book, plan))
            case = case_of(book, plan)
            self.assertEqual(sum(line[-1] for line in bill(book, case)), least)
            self.assertEqual(read_sheets(book, sheets(book, plan)), plan)
            self.assertEqual(cost(turned_book(book), turned_case(book, case)), least)
            self.assertEqual([day for day, row in enumerate(plan) if row], sorted(set(case)))
            for player in [row[0] for row in book[4]]:
                days_called = [day for day, _, _ in calls_of(book, plan, player)]
                self.assertEqual(len(days_called), next(line[2] for line in bill(book, case) if line[:2] == ("player", player)))
        self.assertGreater(min(seen.values()), 15)

    def test_plans_without_a_fault_are_those_that_hold(self):
        seen = {True: 0, False: 0}
        for seed in range(150):
            book = random_book(seed, days=1 + seed % 3, places=2, players=2, scenes=3, most=14)
            for case in ((0, 0, 0), (0, len(book[2]) - 1, 0), (len(book[2]) - 1, 0, 0), (0, 0, len(book[2]) - 1)):
                plan = plan_of(book, case)
                if plan is None:
                    continue
                for turned in (plan, tuple(row[::-1] for row in plan)):
                    held = fault_of(book, turned) is None
                    self.assertEqual(held, holds(book, turned))
                    seen[held] += 1
        self.assertGreater(min(seen.values()), 50)

    def test_the_desk_tells_as_the_functions_do(self):
        desk = Desk()
        for row in TEXT.split("\n"):
            self.assertEqual(desk.say(row), "ok")
        book = read_book(TEXT)
        self.assertEqual(desk.say("show"), TEXT)
        least, *days = desk.say("best").split(" ")
        self.assertEqual(int(least), cheapest(book)[1])
        for scene, day in zip(book[5], days):
            desk.say(f"lay {scene[0]} {day}")
        self.assertEqual((desk.say("cost"), desk.say("blocked"), desk.say("left")), (least, "no", "none"))
        text = "\n".join(desk.say(f"sheet {day}") for day in range(4))
        plan = read_sheets(book, text)
        self.assertIsNone(fault_of(book, plan))
        self.assertEqual(cost(book, case_of(book, plan)), int(least))

    def test_sheets_of_another_book_are_refused(self):
        book = read_book(TEXT)
        plan = cheapest(book)[2]
        with self.assertRaises(NoSheet) as caught:
            read_sheets(lost_book(book, 2), sheets(book, plan))
        self.assertEqual(caught.exception.row, 2 + len(plan[0]) + len(plan[1]))

    def test_a_book_without_scenes(self):
        book = book_of(1, 1, [(9, 9), (0, 0)], [], [], [])
        word, least, plan, paper = cheapest(book)
        self.assertEqual((word, least, plan), ("cheapest", 0, ((), ())))
        self.assertEqual(read_sheets(book, sheets(book, plan)), plan)
        self.assertEqual(fewest_changed(book, plan, 0), 0)


class InterfaceTest(unittest.TestCase):
    def test_each_name_with_its_arguments(self):
        for name, listed in INTERFACE.items():
            module = importlib.import_module(f"shootdays.{name}")
            for told in listed:
                word, _, arguments = told.partition("(")
                with self.subTest(told=told):
                    self.assertEqual(str(inspect.signature(getattr(module, word))), "(" + arguments)

    def test_the_desk_is_asked_by_say(self):
        self.assertEqual(list(inspect.signature(Desk().say).parameters), ["row"])


if __name__ == "__main__":
    unittest.main()
