"""Papers that are written get codes, and are found by codes that are typed."""

import itertools
import random
import unittest

from code_samples import all_codes, is_near, read_as, register_by_hand
from copy_samples import all_contents
from plan_samples import order_by_hand, papers_after
from samples import FAR
from sight_samples import day_by_day, small_office, some_paper_offices

from officepapers.errors import (
    BadCode,
    BadContents,
    BadDay,
    BadMoment,
    BadOffice,
    BadPlan,
    BadScheme,
    TooMany,
)
from officepapers.labels import found_typed, labels
from officepapers.slips import safe_register

SCHEME = (10, 11, (4, 3, 2, 1), 0)
# The first one has no right code, the second one three that are safe together.
NO_CODES = (3, 6, (2, 4, 2), 1)
FEW_CODES = (4, 5, (1, 2, 3), 0)


def most_safe(scheme):
    return max(count for count in range(9) if register_by_hand(scheme, count) is not None)


def plan_with_writes(count):
    deeds = [("write", 0, at % 4) for at in range(count)] + [("over", 0, 1)] * (8 - count)
    return day_by_day(*deeds)


class Labels(unittest.TestCase):
    def test_the_codes_in_the_order_of_the_numbers(self):
        plan = (
            (("write", 0, 0), ("+",)),
            (("shut", 0), ()),
            (("write", 1, 2), ()),
            (("look", 0, 0, 0), ()),
            (("write", 1, 2), ("+", "+")),
        )
        codes = register_by_hand(SCHEME, 3)
        told = labels(SCHEME, small_office(), plan)
        self.assertEqual(told, tuple(zip((0, 2, 4), codes)))
        self.assertEqual([type(told), *map(type, told)], [tuple] * 4)
        self.assertEqual(codes, ((0, 0, 0, 0), (0, 1, 1, 6), (0, 2, 2, 1)))

    def test_as_many_as_there_are_codes_and_one_more(self):
        for scheme in [SCHEME, FEW_CODES, NO_CODES, (2, 2, (1, 1, 1), 0), (5, 30, (6, 10, 15), 1)]:
            most = most_safe(scheme)
            for count in range(9):
                plan = plan_with_writes(count)
                if count <= most:
                    codes = register_by_hand(scheme, count)
                    self.assertEqual(labels(scheme, small_office(), plan), tuple(enumerate(codes)))
                    self.assertEqual(codes, safe_register(scheme, count))
                    found_typed(scheme, small_office(), plan, 0, 8, (), (0,) * len(scheme[2]))
                else:
                    with self.assertRaises(TooMany):
                        labels(scheme, small_office(), plan)
                    with self.assertRaises(TooMany):
                        found_typed(scheme, small_office(), plan, 0, 8, (), (0,) * len(scheme[2]))
        self.assertEqual([most_safe(scheme) for scheme in (SCHEME, FEW_CODES, NO_CODES)], [8, 3, 0])

    def test_no_writes(self):
        self.assertEqual(labels(SCHEME, small_office(), ()), ())
        self.assertEqual(labels(NO_CODES, small_office(), day_by_day(("throw", 0, 0))), ())
        self.assertEqual(found_typed(SCHEME, small_office(), (), 0, 0, (0, 1), (0, 0, 0, 0)), [])
        self.assertEqual(found_typed(NO_CODES, small_office(), (), 0, 0, (0, 1), (0, 0, 0)), [])


class FoundTyped(unittest.TestCase):
    def test_against_the_papers_of_each_moment(self):
        chance = random.Random(321)
        found = set()
        for office, plan in some_paper_offices(90, 322):
            size = len(office[0][2])
            writes = [number for number, (deed, _) in enumerate(plan) if deed[0] == "write"]
            codes = dict(zip(writes, register_by_hand(SCHEME, len(writes))))
            day = chance.choice([0, 3, FAR, -FAR])
            order = order_by_hand(office, plan, day)
            for moment in range(len(plan) + 1):
                contents = chance.choice(all_contents(size))
                papers = papers_after(office, plan, order[:moment], contents)
                typed = [some_slip(chance, code) for code in codes.values()] + list(codes.values())
                for code in typed + [(9, 9, 9, 9)]:
                    near = [number for number in writes if is_near(code, codes[number])]
                    wanted = sorted(
                        (number, folder) for number in near for folder in range(size)
                        if papers.get((folder, plan[number][0][2])) == ("written", number)
                    )
                    told = found_typed(SCHEME, office, plan, day, moment, contents, code)
                    self.assertIs(type(told), list)
                    self.assertEqual(told, wanted)
                    self.assertLessEqual(len({number for number, _ in told}), 1)
                    found.add(len(told))
        self.assertGreater(len(found), 2)

    def test_each_label_and_each_code_one_slip_from_it(self):
        plan = day_by_day(("write", 0, 0), ("write", 1, 1), ("over", 0, 2))
        office = small_office()
        codes = register_by_hand(SCHEME, 2)
        places = [[(0, 0), (0, 2)], [(1, 1)]]
        seen = 0
        near = set().union(*[read_as(SCHEME, code) for code in codes])
        for code in sorted(near) + all_codes(SCHEME)[::13]:
            wanted = [pair for at in (0, 1) if is_near(code, codes[at]) for pair in places[at]]
            self.assertEqual(found_typed(SCHEME, office, plan, 0, 3, (), code), wanted, code)
            seen += wanted != []
        self.assertGreater(seen, 70)

    def test_writes_that_the_moment_has_not_come_to(self):
        plan = ((("write", 0, 0), ("+",)), (("write", 0, 1), ()), (("over", 0, 1), ("+", "+")))
        office = small_office()
        codes = register_by_hand(SCHEME, 2)
        told = [[found_typed(SCHEME, office, plan, 0, moment, (1,), code) for moment in range(4)] for code in codes]
        self.assertEqual(told, [
            [[], [], [(0, 0)], [(0, 0), (0, 1)]],
            [[], [(1, 0)], [(1, 0)], [(1, 0), (1, 1)]],
        ])

    def test_folders_where_the_paper_stands_for_the_first_contents(self):
        plan = day_by_day(("write", 0, 2), ("under", 0, 1), ("under", 0, 2))
        office = small_office()
        for contents in all_contents(3):
            wanted = [(0, folder) for folder in range(3) if folder == 0 or folder not in contents]
            self.assertEqual(found_typed(SCHEME, office, plan, 0, 3, contents, (0, 0, 0, 0)), wanted)
            self.assertEqual(found_typed(SCHEME, office, plan, 0, 0, contents, (0, 0, 0, 0)), [])

    def test_errors_in_their_order(self):
        office = small_office()
        plan = plan_with_writes(4)
        right = [FEW_CODES, office, plan, 0, 8, (), (0, 0, 0)]
        wrong = [None, None, None, None, 9, (3,), (0, 0, 4)]
        errors = [BadScheme, BadOffice, BadPlan, BadDay, BadMoment, BadContents, BadCode]
        for at, error in enumerate(errors):
            for behind in itertools.product((False, True), repeat=len(right) - at - 1):
                values = right[:at] + [wrong[at]]
                values += [wrong[at + 1 + k] if bad else right[at + 1 + k] for k, bad in enumerate(behind)]
                with self.assertRaises(error):
                    found_typed(*values)
        with self.assertRaises(TooMany):
            found_typed(*right)
        for values, error in [((None, None, None), BadScheme), ((FEW_CODES, None, None), BadOffice), ((FEW_CODES, office, None), BadPlan)]:
            with self.assertRaises(error):
                labels(*values)


def some_slip(chance, code):
    at = chance.randrange(4)
    if at < 3 and chance.random() < 0.4:
        return (*code[:at], code[at + 1], code[at], *code[at + 2:])
    return (*code[:at], chance.randrange(10), *code[at + 1:])


if __name__ == "__main__":
    unittest.main()
