import unittest

from shootdays import errors
from shootdays.errors import NoBook, NoDay, NoName, NoPlan, NoRow, NoSheet, NoText, ShootError, TooWide, Twice

PLAIN = (NoBook, NoDay, NoRow)
WITH_ROW = (NoText, Twice, NoName, NoSheet)
REFUSALS = PLAIN + (NoPlan, TooWide) + WITH_ROW


class ErrorsTest(unittest.TestCase):
    def test_each_refusal_is_a_shoot_error_and_a_value_error(self):
        self.assertTrue(issubclass(ShootError, ValueError))
        for kind in REFUSALS:
            with self.subTest(kind=kind.__name__):
                self.assertTrue(issubclass(kind, ShootError))
                self.assertTrue(issubclass(kind, ValueError))

    def test_no_refusal_stands_under_another_one(self):
        for one in REFUSALS:
            for other in REFUSALS:
                if one is not other:
                    with self.subTest(one=one.__name__, other=other.__name__):
                        self.assertFalse(issubclass(one, other))
            self.assertFalse(issubclass(ShootError, one))

    def test_only_shoot_error_stands_between_a_refusal_and_value_error(self):
        for kind in REFUSALS:
            with self.subTest(kind=kind.__name__):
                self.assertEqual(kind.__mro__[1:3], (ShootError, ValueError))

    def test_each_is_named_as_the_interface_names_it(self):
        names = ["NoBook", "NoDay", "NoRow", "NoPlan", "TooWide", "NoText", "Twice", "NoName", "NoSheet"]
        self.assertEqual(sorted(kind.__name__ for kind in REFUSALS), sorted(names))
        for name in names:
            self.assertEqual(getattr(errors, name).__name__, name)

    def test_plain_refusals_are_raised_and_caught(self):
        for kind in PLAIN:
            with self.subTest(kind=kind.__name__):
                with self.assertRaises(ShootError) as caught:
                    raise kind("why")
                self.assertIs(type(caught.exception), kind)

    def test_no_plan_has_its_fault(self):
        for fault in (("days", 3), ("late", "dawn", 0)):
            with self.assertRaises(ShootError) as caught:
                raise NoPlan(fault)
            self.assertEqual(caught.exception.fault, fault)

    def test_too_wide_has_its_cases(self):
        for cases in (1001, 8 ** 8):
            with self.assertRaises(ShootError) as caught:
                raise TooWide(cases)
            self.assertEqual(caught.exception.cases, cases)

    def test_the_others_have_their_row(self):
        for kind in WITH_ROW:
            for row in (0, 7):
                with self.subTest(kind=kind.__name__, row=row):
                    with self.assertRaises(ShootError) as caught:
                        raise kind(row)
                    self.assertIs(type(caught.exception), kind)
                    self.assertEqual(caught.exception.row, row)


if __name__ == "__main__":
    unittest.main()
