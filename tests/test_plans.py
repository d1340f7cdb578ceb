import itertools
import random
import unittest

from shootdays.books import book_of
from shootdays.plans import case_of, fault_of, plan_of
from shootdays.rules import blocked
from shootdays.times import slip
from tests.helper import all_cases, fits, has_slip, random_book

BOOK = book_of(
    10, 2, [(9, 5), (6, 6), (0, 0), (9, 2)],
    [("attic", 1, (3,)), ("harbour", 2, ())],
    [("ada", 5, 1, 1, (0,)), ("bo", 5, 1, 2, ())],
    [
        ("open", "attic", 2, "sun", ("bo",)),
        ("chase", "harbour", 3, "moon", ()),
        ("end", "attic", 3, "any", ("ada", "bo")),
        ("kiss", "harbour", 1, "any", ("ada",)),
    ],
)
WIDE = book_of(
    0, 0, [(9, 9), (9, 3), (9, 9)], [("attic", 0, ())], [("ada", 0, 0, 1, ())],
    [(name, "attic", 1, "sun", ("ada",) if name in "ah" else ()) for name in "abcdefgh"],
)


class CaseOfTest(unittest.TestCase):
    def test_the_case_of_a_plan(self):
        for plan, case in (
            (((), (), (), ()), (None,) * 4),
            ((("open",), (), (), ()), (0, None, None, None)),
            ((("open", "chase"), ("kiss", "end"), (), ()), (0, 0, 1, 1)),
            ((("chase", "open"), (), ("end",), ("kiss",)), (0, 0, 2, 3)),
            (((), (), (), ("kiss", "end", "chase", "open")), (3, 3, 3, 3)),
        ):
            with self.subTest(plan=plan):
                self.assertEqual(case_of(BOOK, plan), case)
                self.assertIs(type(case_of(BOOK, plan)), tuple)

    def test_a_book_without_scenes(self):
        book = book_of(1, 1, [(1, 1), (2, 2)], [], [], [])
        self.assertEqual(case_of(book, ((), ())), ())
        self.assertEqual(plan_of(book, ()), ((), ()))
        self.assertIsNone(fault_of(book, ((), ())))


class PlanOfTest(unittest.TestCase):
    def test_the_empty_case(self):
        self.assertEqual(plan_of(BOOK, (None,) * 4), ((),) * 4)

    def test_rows_are_turned_so_that_they_fit(self):
        self.assertEqual(plan_of(BOOK, (0, 0, None, None)), (("open", "chase"), (), (), ()))
        self.assertEqual(plan_of(BOOK, (1, None, 3, None)), ((), ("open",), (), ("end",)))

    def test_none_where_a_day_does_not_fit(self):
        self.assertIsNone(plan_of(BOOK, (2, None, None, None)))
        self.assertIsNone(plan_of(BOOK, (None, 1, None, None)))
        self.assertIsNone(plan_of(BOOK, (0, 0, 0, 0)))
        self.assertIsNone(plan_of(WIDE, (0,) * 6 + (2,) * 2))
        self.assertIsNone(plan_of(WIDE, (1,) * 4 + (2,) * 4))
        self.assertIsNotNone(plan_of(WIDE, (0,) * 5 + (1,) * 3))

    def test_other_rules_do_not_count(self):
        # The attic is shut on day 3, and ada is away on day 0.
        self.assertEqual(plan_of(BOOK, (None, None, 3, 0)), (("kiss",), (), (), ("end",)))
        self.assertIsNotNone(blocked(BOOK, (None, None, 3, 0)))

    def test_every_case_of_some_books(self):
        seen = {}
        for seed in range(8):
            book = random_book(seed, days=3, players=2, scenes=4)
            for case in all_cases(book):
                names = [[row[0] for row, own in zip(book[5], case) if own == day] for day in range(3)]
                plan = plan_of(book, case)
                seen[plan is None] = True
                if not all(fits(book, day, names[day]) for day in range(3)):
                    self.assertIsNone(plan)
                    continue
                self.assertIs(type(plan), tuple)
                self.assertEqual(len(plan), 3)
                for day, row in enumerate(plan):
                    self.assertIs(type(row), tuple)
                    self.assertEqual(sorted(row), sorted(names[day]))
                    self.assertIsNone(slip(book, day, row))
                    self.assertFalse(has_slip(book, day, row))
                self.assertEqual(case_of(book, plan), case)
                self.assertEqual(plan_of(book, case), plan)
        self.assertEqual(set(seen), {False, True})


class FaultTest(unittest.TestCase):
    def assert_fault(self, book, plan, told, **more):
        with self.subTest(plan=plan, **more):
            found = fault_of(book, plan, **more)
            self.assertEqual(found, told)
            if told is not None:
                self.assertIs(type(found), tuple)

    def test_no_fault(self):
        self.assert_fault(BOOK, (("open", "chase"), ("end",), (), ("kiss",)), None)
        self.assert_fault(BOOK, ((), (), (), ()), None, whole=False)
        self.assert_fault(BOOK, (("open",), (), (), ("kiss", "chase")), None, whole=False)

    def test_too_few_and_too_many_days(self):
        for many in (0, 1, 2, 3, 5, 6, 9):
            for whole in (True, False):
                self.assert_fault(BOOK, ((),) * many, ("days", many), whole=whole)
                self.assert_fault(BOOK, (("x", "x", "open", "open"),) * many, ("days", many), whole=whole)

    def test_strange_texts(self):
        for text in ("x", "", "Open", "open ", "ada", "attic", "openx", "none", "ope", "5"):
            self.assert_fault(BOOK, (("open", text), (), (), ()), ("strange", text))
            self.assert_fault(BOOK, ((), (), (), (text,)), ("strange", text), whole=False)
        self.assert_fault(BOOK, ((), ("y", "x"), ("x",), ()), ("strange", "y"))
        self.assert_fault(BOOK, (("open", "b"), ("a",), ("x",), ()), ("strange", "b"))

    def test_twice(self):
        self.assert_fault(BOOK, (("open", "open"), (), (), ()), ("twice", "open"))
        self.assert_fault(BOOK, (("open",), (), ("open",), ()), ("twice", "open"), whole=False)
        self.assert_fault(BOOK, (("open", "kiss"), (), ("kiss",), ("open",)), ("twice", "kiss"))
        self.assert_fault(BOOK, (("open", "kiss"), ("chase", "end"), ("end", "open"), ()), ("twice", "end"))
        self.assert_fault(BOOK, (("kiss",), ("kiss", "kiss"), (), ()), ("twice", "kiss"))

    def test_strange_goes_ahead_of_twice_wherever_it_stands(self):
        self.assert_fault(BOOK, (("open", "open"), (), (), ("x",)), ("strange", "x"))
        self.assert_fault(BOOK, (("x", "x"), (), (), ()), ("strange", "x"))

    def test_lost_by_whole_in_each_way(self):
        plan = (("chase",), (), (), ("kiss",))
        self.assertEqual(fault_of(BOOK, plan), ("lost", "open"))
        self.assertEqual(fault_of(BOOK, plan, True), ("lost", "open"))
        self.assertEqual(fault_of(BOOK, plan, whole=True), ("lost", "open"))
        self.assertIsNone(fault_of(BOOK, plan, False))
        self.assertIsNone(fault_of(BOOK, plan, whole=False))
        self.assertEqual(fault_of(book=BOOK, plan=plan), ("lost", "open"))

    def test_the_first_scene_of_the_book_that_is_nowhere(self):
        self.assert_fault(BOOK, ((), (), (), ()), ("lost", "open"))
        self.assert_fault(BOOK, (("open",), (), (), ()), ("lost", "chase"))
        self.assert_fault(BOOK, (("open", "chase"), (), (), ("kiss",)), ("lost", "end"))
        self.assert_fault(BOOK, (("open", "chase"), (), (), ("end",)), ("lost", "kiss"))

    def test_twice_goes_ahead_of_lost_and_lost_of_shut(self):
        self.assert_fault(BOOK, ((), (), ("kiss", "kiss"), ()), ("twice", "kiss"))
        self.assert_fault(BOOK, ((), (), (), ("open", "chase", "end")), ("lost", "kiss"))
        self.assert_fault(BOOK, ((), (), (), ("open", "chase", "end")), ("shut", "open", 3), whole=False)

    def test_shut_then_away(self):
        self.assert_fault(BOOK, (("kiss",), ("open",), (), ("end", "chase")), ("shut", "end", 3))
        self.assert_fault(BOOK, ((), (), (), ("end", "open")), ("shut", "open", 3), whole=False)
        self.assert_fault(BOOK, (("kiss", "open"), ("end",), (), ("chase",)), ("away", "ada", 0))
        self.assert_fault(BOOK, (("end",), ("kiss",), (), ()), ("away", "ada", 0), whole=False)

    def test_away_goes_ahead_of_the_days(self):
        self.assert_fault(BOOK, ((), ("chase",), (), ()), ("long", "chase", 1), whole=False)
        self.assert_fault(BOOK, (("kiss",), ("chase",), (), ()), ("away", "ada", 0), whole=False)

    def test_late_and_long(self):
        self.assert_fault(BOOK, (("chase", "open"), ("end",), (), ("kiss",)), ("late", "open", 0))
        self.assert_fault(BOOK, (("open",), ("end", "chase"), (), ("kiss",)), ("long", "chase", 1))
        self.assert_fault(BOOK, (("open", "chase"), (), ("end",), ("kiss",)), ("long", "end", 2))
        self.assert_fault(BOOK, ((), (), ("open",), ()), ("late", "open", 2), whole=False)

    def test_the_row_counts_as_it_stands(self):
        self.assert_fault(BOOK, (("open", "chase"), (), (), ()), None, whole=False)
        self.assert_fault(BOOK, (("chase", "open"), (), (), ()), ("late", "open", 0), whole=False)

    def test_the_first_day_with_a_fault_and_there_the_first_scene(self):
        self.assert_fault(BOOK, ((), ("chase",), ("open",), ()), ("long", "chase", 1), whole=False)
        self.assert_fault(BOOK, (("chase", "open"), (), ("end",), ()), ("late", "open", 0), whole=False)
        self.assert_fault(BOOK, ((), (), ("kiss", "open", "chase"), ()), ("long", "kiss", 2), whole=False)
        self.assert_fault(BOOK, ((), (), ("open", "kiss", "chase"), ()), ("late", "open", 2), whole=False)

    def test_five_and_six_scenes_on_a_day(self):
        self.assert_fault(WIDE, (tuple("abcde"), tuple("fg"), ("h",)), None)
        self.assert_fault(WIDE, (tuple("abcde"), tuple("fgh"), ()), ("tired", "ada", 1))
        self.assert_fault(WIDE, (tuple("bcdefg"), (), tuple("ah")), ("full", 0))
        self.assert_fault(WIDE, (("a",), (), tuple("hgfedcb")), ("full", 2))
        self.assert_fault(WIDE, ((), (), tuple("abcdefgh")), ("full", 2))
        self.assert_fault(WIDE, ((), (), tuple("abcdef")), ("full", 2), whole=False)

    def test_full_goes_ahead_of_late_on_its_day_but_not_of_a_day_ahead(self):
        # Six scenes of an hour are late on day 1, as it has three hours of light.
        self.assert_fault(WIDE, (("a",), tuple("bcdefg"), ("h",)), ("full", 1))
        self.assert_fault(WIDE, (("a",), tuple("bcdef"), tuple("gh")), ("late", "e", 1))
        book = book_of(0, 0, [(1, 1), (9, 9)], [("p", 0, ())], [], [(name, "p", 1, "any", ()) for name in "abcdefgh"])
        self.assert_fault(book, (tuple("ab"), tuple("cdefgh")), ("long", "b", 0))
        self.assert_fault(book, (tuple("a"), tuple("bcdefgh")), ("full", 1))

    def test_tired_comes_last(self):
        self.assert_fault(BOOK, ((), ("end",), (), ("kiss",)), None, whole=False)
        book = book_of(0, 0, [(2, 2)] * 3, [("p", 0, ())], [("ada", 1, 1, 1, ())],
                       [(name, "p", 1, "any", ("ada",)) for name in "abcd"])
        self.assert_fault(book, (("a", "b"), ("c", "d"), ()), ("tired", "ada", 1))
        self.assert_fault(book, (("a",), ("c", "d", "b"), ()), ("long", "b", 1))
        self.assert_fault(book, (("a", "b"), (), ("c", "d")), None)

    def test_a_plan_of_a_case_has_a_fault_just_where_the_case_is_blocked(self):
        for seed in range(8):
            book = random_book(seed, days=3, players=3, scenes=4)
            for case in all_cases(book):
                plan = plan_of(book, case)
                if plan is None:
                    continue
                self.assertEqual(fault_of(book, plan, False), blocked(book, case))
                whole = fault_of(book, plan)
                lost = [row[0] for row, day in zip(book[5], case) if day is None]
                self.assertEqual(whole, ("lost", lost[0]) if lost else blocked(book, case))

    def test_chance_plans_by_the_documents_words(self):
        seen = {}
        for seed in range(1500):
            chance = random.Random(seed)
            book = random_book(seed % 40, days=2, players=2, scenes=3)
            names = [row[0] for row in book[5]]
            if chance.random() < 0.1:
                names.pop()
            if chance.random() < 0.2:
                names.append(chance.choice(("x", names[0], names[-1])))
            chance.shuffle(names)
            cut = chance.randint(0, len(names))
            plan = (tuple(names[:cut]), tuple(names[cut:]))
            whole = chance.random() < 0.5
            if not whole:
                plan = (plan[0], plan[1][:-1])
            wanted = self.first_fault(book, plan, whole)
            self.assert_fault(book, plan, wanted, whole=whole)
            seen[wanted and wanted[0]] = True
        self.assertEqual(set(seen), {None, "strange", "twice", "lost", "shut", "away", "late", "long", "tired"})

    def first_fault(self, book, plan, whole):
        known = [row[0] for row in book[5]]
        texts = list(itertools.chain(*plan))
        for text in texts:
            if text not in known:
                return "strange", text
        for at, text in enumerate(texts):
            if text in texts[:at]:
                return "twice", text
        for name in known:
            if whole and name not in texts:
                return "lost", name
        case = tuple(next((day for day, row in enumerate(plan) if name in row), None) for name in known)
        reason = blocked(book, case)
        if reason is not None and reason[0] in ("shut", "away"):
            return reason
        for day, row in enumerate(plan):
            if slip(book, day, row) is not None:
                return *slip(book, day, row), day
        return reason

    def test_the_plan_that_is_handed_in_stays(self):
        plan = (("open", "chase"), ("end",), (), ("kiss",))
        fault_of(BOOK, plan)
        case_of(BOOK, plan)
        self.assertEqual(plan, (("open", "chase"), ("end",), (), ("kiss",)))
        self.assertEqual(fault_of(BOOK, plan), fault_of(BOOK, plan))


if __name__ == "__main__":
    unittest.main()
