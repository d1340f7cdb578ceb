import itertools
import random
import unittest

from shootdays.books import book_of
from shootdays.cases import no_case
from shootdays.looker import is_paper
from shootdays.search import best
from tests.helper import (
    bound_in, full_cases, least_cost, random_book, random_case, reason_of, some_days, wrong_in_paper,
)

# Three days; the attic is shut on day 1, and ada is away on day 2. The least cost is 36, by her scenes on day 0.
BOOK = book_of(
    10, 1, [(6, 6), (6, 3), (4, 4)], [("attic", 2, (1,)), ("wood", 5, ())], [("ada", 4, 1, 2, (2,)), ("bo", 3, 3, 8, ())],
    [
        ("open", "attic", 3, "any", ("ada",)),
        ("chase", "wood", 2, "sun", ("ada", "bo")),
        ("end", "attic", 3, "any", ()),
    ],
)
EMPTY = (None, None, None)
ALL = (0, 1, 2)


def paper_of(book, case, open_days, told, order, stop=True):
    """A paper by the document's words, of this order; its ends are the earliest ones (or the last ones, without stop)."""
    names = [row[0] for row in book[5]]
    ends = []

    def go(at, days):
        reason = reason_of(book, at)
        end = len(days) == len(order)
        if reason is not None and (stop or end):
            ends.append((days, ("blocked", reason)))
        elif told is not None and bound_in(book, at) >= told and (stop or end):
            ends.append((days, ("bound", bound_in(book, at))))
        elif end:
            raise AssertionError(f"{at} costs less")
        else:
            for day in open_days:
                go(tuple(day if name == order[len(days)] else own for name, own in zip(names, at)), (*days, day))

    if open_days or not order:
        go(case, ())
    return (tuple(order), tuple(ends))


class LookerTest(unittest.TestCase):
    def setUp(self):
        self.cost, self.full, self.paper = best(BOOK, EMPTY, ALL)[1:]
        self.order, self.ends = self.paper

    def look(self, ends=None, order=None, told=0, case=EMPTY, open_days=ALL):
        """Whether the paper with these changes is one, which must be as the document's words have it."""
        paper = (self.order if order is None else tuple(order), self.ends if ends is None else tuple(ends))
        cost = self.cost if told == 0 else told
        found = is_paper(BOOK, case, open_days, cost, paper)
        self.assertIs(found, wrong_in_paper(BOOK, case, open_days, cost, paper) is None)
        return found

    def test_the_paper_that_is_told(self):
        self.assertEqual(self.cost, least_cost(BOOK, full_cases(EMPTY, ALL)))
        self.assertIs(self.look(), True)
        kinds = {reason[0] for _, reason in self.ends}
        self.assertEqual(kinds, {"blocked", "bound"})
        self.assertGreater(len({len(days) for days, _ in self.ends}), 1)

    def test_any_order_and_any_ends_that_do(self):
        for order in itertools.permutations(("open", "chase", "end")):
            for stop in (True, False):
                for told in range(self.cost - 2, self.cost + 1):
                    paper = paper_of(BOOK, EMPTY, ALL, told, order, stop)
                    self.assertIs(is_paper(BOOK, EMPTY, ALL, told, paper), True)
                    self.assertIsNone(wrong_in_paper(BOOK, EMPTY, ALL, told, paper))

    def test_the_order_changed(self):
        for order in itertools.permutations(self.order):
            self.assertIs(self.look(order=order), order == self.order)

    def test_a_name_twice_left_out_strange_or_of_a_scene_that_is_laid(self):
        first, second, third = self.order
        for order in (
            (first, first, second), (first, second, second), (first, second, third, third), (first, second), (second, third),
            (first, second, "x"), (first, second, ""), (first, second, third, "x"), (first, second, "ada"), (),
        ):
            self.assertIs(self.look(order=order), False)
        # Laid already: the rows of a paper of two scenes with all three names.
        self.assertIs(self.look(case=(0, None, None)), False)
        self.assertIs(self.look(case=self.full), False)

    def test_ends_that_are_not_sorted(self):
        self.assertIs(self.look(self.ends[::-1]), False)
        for at in range(len(self.ends) - 1):
            ends = list(self.ends)
            ends[at], ends[at + 1] = ends[at + 1], ends[at]
            self.assertIs(self.look(ends), False)

    def test_an_end_left_out(self):
        for at in range(len(self.ends)):
            self.assertIs(self.look(self.ends[:at] + self.ends[at + 1:]), False)
        self.assertIs(self.look(()), False)

    def test_an_end_more(self):
        for at, end in enumerate(self.ends):
            self.assertIs(self.look(self.ends[:at] + (end,) + self.ends[at:]), False)
        for more in (((), ("bound", 99)), ((3,), ("bound", 99)), ((-1,), ("bound", 99)), ((2, 2, 2, 2), ("bound", 99))):
            self.assertIs(self.look(sorted(self.ends + (more,))), False)
            self.assertIs(self.look(self.ends + (more,)), False)
            self.assertIs(self.look((more,) + self.ends), False)

    def test_an_end_that_begins_another(self):
        order = ("open", "chase", "end")
        paper = paper_of(BOOK, EMPTY, ALL, self.cost, order, stop=False)
        by_days = dict(paper[1])
        # Day 1 is shut for the first scene, so that an end of (1,) alone would do; not beside those behind it.
        early = ((1,), ("blocked", ("shut", "open", 1)))
        self.assertIs(self.look(sorted([*paper[1], early]), order), False)
        rest = [end for end in paper[1] if end[0][0] != 1]
        self.assertIs(self.look(sorted([*rest, early]), order), True)
        # One of the ends behind it left out, or all but one.
        behind = [end for end in paper[1] if end[0][0] == 1]
        self.assertEqual(len(behind), 9)
        for end in behind:
            self.assertIs(self.look(sorted([early, *[other for other in paper[1] if other != end]]), order), False)
            self.assertIs(self.look(sorted([early, end, *rest]), order), False)
        self.assertEqual(len(by_days), 27)

    def test_ends_of_too_many_days(self):
        paper = paper_of(BOOK, EMPTY, ALL, self.cost, self.order, stop=False)
        days, reason = paper[1][0]
        split = [(days + (day,), reason) for day in ALL]
        self.assertIs(self.look([*split, *paper[1][1:]]), False)
        self.assertIs(self.look([split[0], *paper[1][1:]]), False)

    def test_a_day_that_is_not_open(self):
        # Without day 2 among the open ones the ends there are too many, and with one more too few.
        self.assertIs(self.look(open_days=(0, 1)), False)
        fewer = [(days, reason) for days, reason in self.ends if 2 not in days]
        self.assertIs(self.look(fewer), False)
        self.assertIs(self.look(fewer, open_days=(0, 1)), True)

    def test_blocked_by_another_reason(self):
        places = [at for at, (_, reason) in enumerate(self.ends) if reason[0] == "blocked"]
        self.assertGreater(len(places), 2)
        for at in places:
            days, (_, told) = self.ends[at]
            for other in (
                ("shut", "open", 0), ("shut", "chase", 1), ("away", "ada", 2), ("away", "bo", 2), ("full", 0), ("full", 1),
                ("full", 2), ("tired", "ada", 2), ("full",), (), None, told[:-1], told + (0,), told[0], (told,),
            ):
                if other != told:
                    ends = self.ends[:at] + ((days, ("blocked", other)),) + self.ends[at + 1:]
                    self.assertIs(self.look(ends), False)
            for reason in (("blocked",), ("blocked", told, told), told, (), ("bound", told), ("other", told), (None, told)):
                self.assertIs(self.look(self.ends[:at] + ((days, reason),) + self.ends[at + 1:]), False)

    def test_blocked_told_of_what_is_not(self):
        places = [at for at, (_, reason) in enumerate(self.ends) if reason[0] == "bound"]
        self.assertGreater(len(places), 2)
        free = 0
        for at in places:
            days, _ = self.ends[at]
            for reason in (None, ("full", 0), ("full", 1), ("shut", "open", 1), ("away", "ada", 2), ()):
                ends = self.ends[:at] + ((days, ("blocked", reason)),) + self.ends[at + 1:]
                free += not self.look(ends)
        self.assertGreater(free, 10)

    def test_a_bound_that_is_another_number(self):
        for at, (days, reason) in enumerate(self.ends):
            if reason[0] == "bound":
                for other in (reason[1] - 1, reason[1] + 1, 0, -reason[1], None, str(reason[1]), (reason[1],)):
                    ends = self.ends[:at] + ((days, ("bound", other)),) + self.ends[at + 1:]
                    self.assertIs(self.look(ends), False)
                for wrong in (("bound",), ("bound", reason[1], reason[1]), (reason[1],), ("blocked", reason[1]), ()):
                    self.assertIs(self.look(self.ends[:at] + ((days, wrong),) + self.ends[at + 1:]), False)

    def test_a_bound_that_is_below_the_cost(self):
        self.assertIs(self.look(told=self.cost + 1), False)
        self.assertIs(self.look(told=self.cost - 1), True)
        self.assertIs(self.look(told=-1), True)
        # The bound of the empty case is right, but too low.
        low = bound_in(BOOK, EMPTY)
        self.assertLess(low, self.cost)
        self.assertIs(self.look([((), ("bound", low))]), False)
        self.assertIs(self.look([((), ("bound", low))], told=low), True)
        self.assertIs(self.look([((), ("bound", low))], told=low + 1), False)
        self.assertIs(self.look([((), ("bound", self.cost))]), False)

    def test_a_bound_of_a_case_that_is_blocked_too(self):
        # Both reasons hold of such a case: either may be told.
        full = (1, 1, 1)
        bound = bound_in(BOOK, full)
        self.assertIs(self.look([((), ("bound", bound))], order=(), case=full, told=bound), True)
        self.assertIs(self.look([((), ("blocked", ("shut", "open", 1)))], order=(), case=full, told=bound), True)
        self.assertIs(self.look([((), ("blocked", ("shut", "open", 1)))], order=(), case=full, told=bound + 1), True)
        # The first reason alone is told, though the day is full, too.
        self.assertIs(self.look([((), ("blocked", ("full", 1)))], order=(), case=full), False)

    def test_any_bound_where_the_cost_is_none(self):
        self.assertIs(self.look(told=None), False)
        low = bound_in(BOOK, EMPTY)
        self.assertIs(self.look([((), ("bound", low))], told=None), False)
        blocked = (1, None, None)
        self.assertIs(self.look([((), ("blocked", ("shut", "open", 1)))], ("end", "chase"), None, blocked), True)
        bound = bound_in(BOOK, blocked)
        self.assertIs(self.look([((), ("bound", bound))], ("end", "chase"), None, blocked), False)
        self.assertIs(self.look([((), ("bound", bound))], ("end", "chase"), bound, blocked), True)

    def test_an_order_without_names(self):
        for open_days in ((), (1,), ALL):
            end = ((), ("bound", self.cost))
            self.assertIs(self.look([end], (), self.cost, self.full, open_days), True)
            self.assertIs(self.look([], (), self.cost, self.full, open_days), False)
            self.assertIs(self.look([end, end], (), self.cost, self.full, open_days), False)
            self.assertIs(self.look([((0,), ("bound", self.cost))], (), self.cost, self.full, open_days), False)
            self.assertIs(self.look([end], ("open",), self.cost, self.full, open_days), False)
            self.assertIs(self.look([end], (), None, self.full, open_days), False)
            self.assertIs(self.look([((), ("blocked", None))], (), None, self.full, open_days), False)

    def test_names_and_no_open_days(self):
        for told in (None, 0, self.cost):
            for order in itertools.permutations(("open", "chase", "end")):
                self.assertIs(self.look([], order, told, EMPTY, ()), True)
                self.assertIs(self.look([((), ("bound", bound_in(BOOK, EMPTY)))], order, told, EMPTY, ()), False)
            self.assertIs(self.look([], (), told, EMPTY, ()), False)
            # Not even of a case that is blocked.
            self.assertIs(self.look([], ("end", "chase"), told, (1, None, None), ()), True)
            end = ((), ("blocked", ("shut", "open", 1)))
            self.assertIs(self.look([end], ("end", "chase"), told, (1, None, None), ()), False)

    def test_a_book_without_scenes(self):
        book = book_of(1, 1, [(9, 9)], [], [], [])
        self.assertIs(is_paper(book, (), (0,), 0, ((), (((), ("bound", 0)),))), True)
        self.assertIs(is_paper(book, (), (0,), 1, ((), (((), ("bound", 0)),))), False)
        self.assertIs(is_paper(book, (), (), 0, ((), (((), ("bound", 0)),))), True)
        self.assertIs(is_paper(book, (), (), 0, ((), ())), False)

    def test_nothing_that_is_handed_in_is_changed(self):
        paper = (self.order, self.ends)
        before = repr((BOOK, EMPTY, paper))
        self.assertIs(is_paper(BOOK, EMPTY, ALL, self.cost, paper), True)
        self.assertIs(is_paper(BOOK, EMPTY, ALL, self.cost, paper), True)
        self.assertEqual(repr((BOOK, EMPTY, paper)), before)


def spoiled(chance, book, paper, told):
    """A paper changed somewhere by chance."""
    order, ends = list(paper[0]), [list(end) for end in paper[1]]
    kind = chance.randrange(7)
    at = chance.randrange(len(ends)) if ends else None
    if kind == 0:
        chance.shuffle(order)
    elif kind == 1 and order:
        order[chance.randrange(len(order))] = chance.choice(book[5])[0]
    elif kind == 2 and ends:
        ends[at][0] = tuple(chance.randrange(len(book[2])) for _ in range(chance.randint(0, len(order))))
    elif kind == 3 and ends:
        ends[at][1] = chance.choice(paper[1])[1]
    elif kind == 4 and ends:
        del ends[at]
    elif kind == 5 and ends:
        ends.insert(at, list(chance.choice(ends)))
    elif ends:
        ends[at][1] = ("bound", told or 0)
    return (tuple(order), tuple(tuple(end) for end in ends))


class ManyTest(unittest.TestCase):
    def test_papers_of_any_order_of_many_books(self):
        for seed in range(120):
            book = random_book(seed, days=1 + seed % 4, places=1 + seed % 3, players=seed % 4, scenes=seed % 5, most=18)
            chance = random.Random(seed)
            case = random_case(book, seed, (0, 0.4, 1)[seed // 5 % 3])
            open_days = some_days(chance, len(book[2]), 0.8)
            least = least_cost(book, full_cases(case, open_days))
            order = [row[0] for row, day in zip(book[5], case) if day is None]
            chance.shuffle(order)
            for stop in (True, False):
                paper = paper_of(book, case, open_days, least, order, stop)
                self.assertIs(is_paper(book, case, open_days, least, paper), True)
                if least is not None and paper[1]:
                    # Some unblocked full case costs just so much, so that its end's bound is below the next number.
                    self.assertIs(is_paper(book, case, open_days, least + 1, paper), False)
                    self.assertIs(is_paper(book, case, open_days, None, paper), False)

    def test_spoiled_papers_of_many_books(self):
        seen = {True: 0, False: 0}
        for seed in range(900):
            book = random_book(seed % 90, days=1 + seed % 3, places=2, players=seed % 3, scenes=1 + seed % 4, most=18)
            case = no_case(book)
            days = tuple(range(len(book[2])))
            told = best(book, case, days)
            cost = told[1] if told[0] == "cheapest" else None
            paper = spoiled(random.Random(seed), book, told[-1], cost)
            found = is_paper(book, case, days, cost, paper)
            self.assertIs(found, wrong_in_paper(book, case, days, cost, paper) is None)
            seen[found] += 1
        self.assertGreater(min(seen.values()), 90)


if __name__ == "__main__":
    unittest.main()
