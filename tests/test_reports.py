import random
import unittest

from report_samples import (
    REPORTS,
    SIZE,
    all_shown,
    explained_by_hand,
    shows,
    some_reports,
    told_folders,
)
from samples import OTHERS, Odd

from officepapers.copies import papers_at
from officepapers.errors import BadReports
from officepapers.reports import against, against_holds, explained
from officepapers.scripts import script_for

# The one tells 0 ahead of 1, the others 1 ahead of 2 and 2 ahead of 0; and 3 ahead of all.
RING = (((0, 1), 0), ((1, 2), 1), ((0, 2), 2), ((0, 1, 2, 3), 3))


class Explained(unittest.TestCase):
    def test_against_all_tuples_of_the_folders(self):
        found = []
        for size, folder, reports in some_reports(600, 101):
            told = explained(size, folder, reports)
            self.assertEqual(told, explained_by_hand(folder, reports), (size, folder, reports))
            found.append(told is None)
        self.assertGreater(min(found.count(True), found.count(False)), 100)

    def test_six_folders_and_twelve_reports(self):
        for size, folder, reports in some_reports(60, 102, most=12):
            reports = (reports * 12)[:12] or (((0,), 0),) * 12
            told = explained(6, folder, reports)
            self.assertEqual(told, explained_by_hand(folder, reports))
            with self.assertRaises(BadReports):
                explained(6, folder, reports + reports[:1])

    def test_a_script_gives_what_is_explained(self):
        for size, folder, reports in some_reports(200, 103):
            row = explained(size, folder, reports)
            if row is not None:
                self.assertIs(type(row), tuple)
                script = script_for(size, folder, row)
                for contents, told in reports:
                    source = None if told is None else ("first", told)
                    self.assertEqual(papers_at(size, script, 0, contents)[folder], source)

    def test_the_least_one(self):
        self.assertEqual(explained(4, 2, (((1, 2), 2), ((3,), 3))), (2, 3))
        self.assertEqual(explained(4, 2, (((0, 1), 1), ((0, 3), 0))), (1, 0, 2))
        self.assertEqual(explained(6, 5, (((0,), 0), ((1, 4), 4), ((2, 5), 5), ((1,), 1), ((2,), 2))), (0, 4, 1, 5, 2))

    def test_no_reports(self):
        for size in range(1, 7):
            for folder in range(size):
                self.assertEqual(explained(size, folder, ()), (folder,))
                self.assertIsNone(against(size, folder, ()))

    def test_folders_of_contents_alone_are_not_told(self):
        self.assertEqual(explained(4, 0, (((1, 2, 3), 2),)), (0, 2))
        self.assertEqual(explained(4, 0, (((1, 3), None),)), (0,))
        self.assertEqual(explained(4, 0, (((1, 2), None), ((1, 3), 3))), (0, 3))

    def test_reports_of_none(self):
        self.assertIsNone(explained(2, 0, (((0,), None),)))
        self.assertIsNone(explained(2, 0, (((0, 1), None),)))
        self.assertEqual(explained(2, 0, (((1,), None),)), (0,))
        self.assertIsNone(explained(2, 0, (((1,), None), ((0, 1), 1))))

    def test_equal_reports(self):
        self.assertEqual(explained(2, 0, (((0, 1), 1),) * 12), (1, 0))


class Against(unittest.TestCase):
    def test_exactly_where_there_is_no_explanation(self):
        words = []
        for size, folder, reports in some_reports(600, 104):
            told = against(size, folder, reports)
            self.assertEqual(told is None, explained_by_hand(folder, reports) is not None)
            if told is not None:
                self.assertTrue(shows(folder, reports, told), (folder, reports, told))
                self.assertIs(against_holds(size, folder, reports, told), True)
                self.assertIs(type(told), tuple)
                words.append((told[0], len(told[1]) if told[0] == "ring" else 1))
        self.assertLessEqual({("lost", 1), ("ring", 2), ("ring", 3)}, set(words))

    def test_a_ring(self):
        told = against(4, 3, RING)
        self.assertEqual(told[0], "ring")
        self.assertIn(told[1], [(0, 1, 2), (1, 2, 0), (2, 0, 1)])
        self.assertIsNone(against(4, 3, RING[1:]))

    def test_a_long_ring(self):
        reports = tuple((tuple(sorted((at, (at + 1) % 6))), at) for at in range(6))
        told = against(6, 0, reports)
        self.assertEqual(sorted(told[1]), [0, 1, 2, 3, 4, 5])
        self.assertTrue(shows(0, reports, told))
        self.assertIs(against_holds(6, 0, reports, told), True)
        self.assertIs(against_holds(6, 0, reports, ("ring", told[1][::-1])), False)
        self.assertIsNone(against(6, 0, reports[:5]))

    def test_lost(self):
        self.assertEqual(against(2, 0, (((1,), 1), ((1,), None))), ("lost", 1, 1))
        self.assertEqual(against(2, 0, (((0,), None),)), ("lost", 0, 0))
        self.assertIsNone(against(2, 0, (((1,), None),)))


class AgainstHolds(unittest.TestCase):
    def test_against_all_that_may_be_shown(self):
        for size, folder, reports in some_reports(150, 105, most=5):
            for thing in all_shown(size, reports):
                holds = against_holds(size, folder, reports, thing)
                self.assertIs(holds, shows(folder, reports, thing), (size, folder, reports, thing))

    def test_nothing_holds_where_there_is_an_explanation(self):
        for size, folder, reports in some_reports(100, 106, most=5):
            if explained(size, folder, reports) is not None:
                for thing in all_shown(size, reports):
                    self.assertIs(against_holds(size, folder, reports, thing), False)

    def test_each_rule_of_lost_broken_alone(self):
        reports = (((0, 1), 0), ((0, 2, 3), None), ((2, 3), 3), ((1, 2), None))
        self.assertEqual(told_folders(0, reports), {0, 3})
        for thing in [("lost", 1, 0), ("lost", 1, 3)]:
            self.assertIs(against_holds(4, 0, reports, thing), True)
        for thing in [
            ("lost", 0, 0),
            ("lost", 1, 1),
            ("lost", 1, 2),
            ("lost", 3, 0),
            ("lost", 3, 1),
            ("lost", 2, 3),
            ("lost", -3, 0),
            ("lost", 4, 0),
            ("lost", 1, 4),
            ("lost", 1, -1),
            ("lost", True, 0),
            ("lost", 1, False),
            ("lost", 1, None),
            ("lost", None, 0),
            ("lost", "1", 0),
            ("lost", 1, "0"),
            ("lost", 1, (0,)),
            ("lost", Odd(), 0),
            ("lost", 1, Odd()),
            ("lost", 1),
            ("lost", 1, 0, 0),
            ["lost", 1, 0],
            ("Lost", 1, 0),
            ("ring", 1, 0),
            (b"lost", 1, 0),
            (None, 1, 0),
            (Odd(), 1, 0),
        ]:
            self.assertIs(against_holds(4, 0, reports, thing), False, thing)

    def test_each_rule_of_a_ring_broken_alone(self):
        reports = RING + (((0, 1), 1), ((0, 1), None), ((0, 1), 0), ((0,), 0))
        for indexes in [(0, 1, 2), (1, 2, 0), (2, 0, 1), (0, 4), (4, 0), (6, 4), (6, 1, 2)]:
            self.assertIs(against_holds(4, 3, reports, ("ring", indexes)), True)
        for indexes in [
            (),
            (0,),
            (2, 1, 0),
            (0, 2, 1),
            (0, 1),
            (1, 2),
            # A folder told by two, and one told by none.
            (0, 0),
            (0, 6),
            (0, 4, 6, 4),
            (0, 1, 2, 0, 1, 2),
            (0, 5),
            (5, 4),
            (7, 4),
            (0, 1, 2, 3),
            (3, 0, 1, 2),
            [0, 4],
            (False, 4),
            (0, 4, None),
            (0, 8),
            (-8, 4),
            (0, -4),
            ("0", 4),
            (0, (4,)),
            (Odd(), Odd()),
            (0, Odd()),
            "04",
            None,
            0,
            Odd(),
        ]:
            self.assertIs(against_holds(4, 3, reports, ("ring", indexes)), False, indexes)
        for thing in [("ring",), ("ring", (0, 4), 0), ["ring", (0, 4)], ("lost", (0, 4)), (Odd(), (0, 4)), (0, 4)]:
            self.assertIs(against_holds(4, 3, reports, thing), False, thing)

    def test_indexes_from_the_end(self):
        reports = (((0, 1), 0), ((0, 1), 1), ((0, 1), None))
        self.assertIs(against_holds(2, 0, reports, ("ring", (0, 1))), True)
        for indexes in [(0, -2), (-3, 1), (-2, 0), (-2, -3)]:
            self.assertIs(against_holds(2, 0, reports, ("ring", indexes)), False)
        self.assertIs(against_holds(2, 0, reports[:2], ("ring", (0, -1))), False)
        self.assertIs(against_holds(2, 0, reports, ("lost", 2, 0)), True)
        self.assertIs(against_holds(2, 0, reports, ("lost", -1, 0)), False)

    def test_other_objects(self):
        for thing in OTHERS + [5, (), "lost", ("lost",), (None,), Odd(), (Odd(),), (Odd(), Odd()), (Odd(),) * 3]:
            self.assertIs(against_holds(SIZE, 0, REPORTS, thing), False)
            self.assertIs(against_holds(4, 3, RING, thing), False)
            self.assertIs(against_holds(4, 3, (), thing), False)
        for index in range(-2, 3):
            self.assertIs(against_holds(4, 3, (), ("lost", index, 3)), False)
            self.assertIs(against_holds(4, 3, (), ("ring", (index, index + 1))), False)

    def test_reports_told_by_chance(self):
        chance = random.Random(107)
        for size, folder, reports in some_reports(60, 108, most=12):
            for _ in range(40):
                many = chance.randint(2, 6)
                thing = ("ring", tuple(chance.randrange(len(reports)) for _ in range(many)) if reports else ())
                if len(set(thing[1])) == len(thing[1]):
                    self.assertIs(against_holds(size, folder, reports, thing), shows(folder, reports, thing))


if __name__ == "__main__":
    unittest.main()
