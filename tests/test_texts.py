"""Texts of calendars, routes, codes, deeds and plans."""

import itertools
import random
import unittest

from code_samples import SCHEME, SCHEMES, all_codes
from copy_samples import all_deeds
from house_samples import MODE, all_right_deeds
from plan_samples import BAD_OFFICES, LONG_PLAN, OFFICE, PLAN, all_looks, some_offices
from samples import CALENDARS, OTHERS, PLAIN, ROUTES, some_calendars
from text_samples import (
    broken_texts,
    calendar_place,
    calendar_text,
    deed_place,
    deed_text,
    plan_place,
    plan_text,
    route_place,
    route_text,
)

from officepapers.errors import BadOffice, BadScheme, BadText
from officepapers.texts import (
    read_calendar,
    read_code,
    read_deed,
    read_plan,
    read_route,
    show_calendar,
    show_code,
    show_deed,
    show_plan,
    show_route,
)

NO_TEXTS = [thing for thing in OTHERS if not isinstance(thing, str)] + [5, 0, ("o",), ["o"], b"o", ("shut", 0), ()]
POOL = ["", "o", "a", "+", ".", ":", ";", "closed", "opened", "0", "1", "-1", "-0", "+1", "01", "30", "31", "none", "p1"]
POOL += ["g0", "p9", "over", "shut", "look", "\n", "a\n", "-"]


class Texts(unittest.TestCase):
    def place_of(self, call, *given):
        """The place of the error that is raised; None if there is none."""
        try:
            call(*given)
        except BadText as error:
            self.assertIs(type(error), BadText)
            return error.place
        return None

    def assert_no_texts(self, call, *ahead):
        for thing in NO_TEXTS:
            self.assertEqual(self.place_of(call, *ahead, thing), 0, thing)


class Calendars(Texts):
    def test_there_and_back(self):
        for calendar in some_calendars(200, 331) + CALENDARS:
            text = show_calendar(calendar)
            self.assertEqual(text, calendar_text(calendar))
            self.assertEqual(read_calendar(text), calendar)
        calendar = ("-o", ((-30, 4), (-3, -3)), ((0, 30),))
        self.assertEqual(show_calendar(calendar), "-o closed -30 4 closed -3 -3 opened 0 30")
        self.assertEqual(show_calendar(PLAIN), "o")

    def test_broken_ones(self):
        texts = set()
        for calendar in some_calendars(12, 332):
            texts.update(broken_texts(calendar_text(calendar), POOL))
        places = set()
        for text in texts:
            place = calendar_place(text)
            self.assertEqual(self.place_of(read_calendar, text), place, text)
            places.add(place)
            if place is None:
                self.assertEqual(show_calendar(read_calendar(text)), text)
        self.assertGreater(len(places), 12)

    def test_all_short_ones(self):
        for words in itertools.product(["o", "closed", "opened", "5", "-5", ""], repeat=4):
            text = " ".join(words)
            self.assertEqual(self.place_of(read_calendar, text), calendar_place(text), text)

    def test_places(self):
        for text, place in [
            ("", 0),
            (" ", 0),
            ("-", 0),
            ("ooooo", 0),
            ("x", 0),
            ("o\n", 0),
            ("o ", 1),
            ("o  closed 1 2", 1),
            ("o closed", 2),
            ("o closed 1", 3),
            ("o closed 1 2 ", 4),
            ("o closed 1 2 3", 4),
            ("o closed 31 31", 2),
            ("o closed -31 0", 2),
            ("o closed 2 1", 3),
            ("o closed 2 31", 3),
            ("o closed +2 3", 2),
            ("o closed 02 3", 2),
            ("o closed -0 3", 2),
            ("o closed 0 00", 3),
            ("o closed 1 2 closed 1 2", 6),
            ("o closed 1 2 closed 0 30", 6),
            # A second one always is as it has to be, also if no span stands behind the first one.
            ("o closed 30 30 closed", 5),
            ("o closed 30 30 closed 30", 6),
            ("o closed 30 30 closed 30 30", 6),
            ("o closed 30 30 closed 29 30", 6),
            ("o closed 1 2 closed 1 3 closed 4 5", 7),
            ("o opened 1 2 closed 3 4", 4),
            ("o closed 1 2 opened 3 4 closed 5 6", 7),
            ("o opened 1 2 opened 3 4 opened 5 6", 7),
            ("o Closed 1 2", 1),
            ("o closed 1 2 opened 0 " + "9" * 9000, 6),
            ("o closed " + "1" * 9000 + " 2", 2),
        ]:
            self.assertEqual(self.place_of(read_calendar, text), place, text)
            self.assertEqual(calendar_place(text), place)
        self.assertEqual(read_calendar("o closed 1 2 closed 1 3"), ("o", ((1, 2), (1, 3)), ()))
        self.assertEqual(read_calendar(text="o opened 0 0"), ("o", (), ((0, 0),)))

    def test_what_is_no_text(self):
        self.assert_no_texts(read_calendar)


class Routes(Texts):
    def test_there_and_back(self):
        for route in ROUTES + [tuple("abcdefgh"), ("z",)]:
            self.assertEqual(show_route(route), route_text(route))
            self.assertEqual(read_route(show_route(route)), route)
        self.assertEqual([show_route(()), show_route(("a", "+", "a"))], [".", "a + a"])
        self.assertEqual(read_route(text="."), ())

    def test_broken_ones(self):
        for route in ROUTES:
            for text in set(broken_texts(route_text(route), POOL + ["A", "ab", "{", "`"])):
                self.assertEqual(self.place_of(read_route, text), route_place(text), text)
                if route_place(text) is None:
                    self.assertEqual(route_text(read_route(text)), text)

    def test_places(self):
        for text, place in [
            ("", 0),
            (" ", 0),
            ("a ", 1),
            ("a  b", 1),
            (" a", 0),
            (". ", 1),
            (". a", 1),
            (". .", 1),
            ("a .", 1),
            ("a\n", 0),
            ("a + A", 2),
            ("+ + + + + + + + +", 8),
            ("a b c d e f g h i", 8),
            ("a b c d e f g h ", 8),
            ("ab", 0),
            ("a+", 0),
            ("0", 0),
        ]:
            self.assertEqual(self.place_of(read_route, text), place, text)

    def test_what_is_no_text(self):
        self.assert_no_texts(read_route)


class Codes(Texts):
    def test_there_and_back(self):
        for scheme in SCHEMES:
            for code in all_codes(scheme)[::7]:
                text = show_code(code)
                self.assertEqual(text, "".join(map(str, code)))
                self.assertEqual(read_code(scheme, text), code)
        self.assertEqual(read_code(scheme=SCHEME, text="123"), (1, 2, 3))

    def test_places(self):
        for scheme in [SCHEME, (10, 11, (4, 3, 2, 1), 0), (2, 2, (1, 1), 0)]:
            signs = "0123456789a -+\n"
            many = len(scheme[2])
            for length in range(5):
                for text in map("".join, itertools.product(signs[::2] + signs[-3:], repeat=length)):
                    bad = [at for at, sign in enumerate(text) if at == many or sign not in signs[:scheme[0]]]
                    place = bad[0] if bad else length if length < many else None
                    self.assertEqual(self.place_of(read_code, scheme, text), place, text)
        for text, place in [("", 0), ("1", 1), ("12", 2), ("124", 2), ("1234", 3), ("123\n", 3), (" 123", 0), ("4", 0)]:
            self.assertEqual(self.place_of(read_code, SCHEME, text), place, text)

    def test_what_is_no_text(self):
        self.assert_no_texts(read_code, SCHEME)

    def test_bad_scheme_comes_first(self):
        for scheme in [None, SCHEME[:3], list(SCHEME), (11, *SCHEME[1:])]:
            for text in ["123", "x", None]:
                with self.assertRaises(BadScheme):
                    read_code(scheme, text)


def office_of(people, size):
    return ((people, (0,) * (size - 1), (False,) * size, (), ()), MODE, ())


class Deeds(Texts):
    def test_there_and_back(self):
        for people, size in [(1, 1), (2, 2), (3, 4), (4, 6)]:
            office = office_of(people, size)
            for deed in all_right_deeds(people, size) + all_deeds(size) + all_looks(people, size):
                self.assertEqual(show_deed(deed), deed_text(deed))
                self.assertEqual(read_deed(office, deed_text(deed)), deed)

    def test_the_texts_of_the_document(self):
        for deed, text in [
            (("allow", 2, ("g", 0)), "allow 2 g0"),
            (("join", 0, ("p", 1)), "join 0 p1"),
            (("login", 2), "login 2"),
            (("over", 1, 3), "over 1 3"),
            (("look", 0, 4, 2), "look 0 4 2"),
        ]:
            self.assertEqual(show_deed(deed), text)
            self.assertEqual(read_deed(office_of(3, 5), text), deed)
        self.assertEqual(read_deed(office=OFFICE, text="shut 3"), ("shut", 3))

    def test_broken_ones(self):
        pool = POOL + ["2", "3", "4", "6", "p0", "p2", "g2", "g3", "g", "p", "p00", "P0", "0 ", "under", "write", "move"]
        for people, size in [(1, 1), (2, 3), (4, 6)]:
            office = office_of(people, size)
            deeds = all_right_deeds(people, size)[::5] + all_deeds(size)[::3] + all_looks(people, size)[::9]
            texts = set()
            for deed in deeds:
                texts.update(broken_texts(deed_text(deed), pool))
            for text in texts:
                place = deed_place(people, size, text)
                self.assertEqual(self.place_of(read_deed, office, text), place, text)
                if place is None:
                    self.assertEqual(deed_text(read_deed(office, text)), text)

    def test_places(self):
        for text, place in [
            ("", 0),
            (" ", 0),
            ("over", 1),
            ("over ", 1),
            ("over 1", 2),
            ("over 1 1", 2),
            ("over 1 4", 2),
            ("over 4 1", 1),
            ("over 1 2 ", 3),
            ("over 1 2 3", 3),
            ("over  1 2", 1),
            ("over 1 2\n", 2),
            ("over 01 2", 1),
            ("over 1 -0", 2),
            ("over 1 +2", 2),
            ("Over 1 2", 0),
            ("move 0 2", None),
            ("move 1 1", None),
            ("join 3 p0", 1),
            ("join 0 g0", None),
            ("allow 0 0", 2),
            ("allow 0 p3", 2),
            ("allow 0 p-1", 2),
            ("allow 0 q1", 2),
            ("login p1", 1),
            ("login 3", 1),
            ("look 2 3 3", None),
            ("look 3 3 3", 1),
            ("look 2 4 3", 2),
            ("look 2 3 4", 3),
            ("write 0 4", 2),
            ("throw 4 0", 1),
            ("shut 0 0", 2),
            ("none", 0),
        ]:
            self.assertEqual(self.place_of(read_deed, office_of(3, 4), text), place, text)

    def test_no_copies_in_a_house_of_one_folder(self):
        for text, place in [("over", 0), ("under", 0), ("over 0 1", 0), ("under 0 0", 0), ("write 0 0", None), ("move 0 0", None)]:
            self.assertEqual(self.place_of(read_deed, office_of(2, 1), text), place)
            if place == 0:
                self.assertEqual(self.place_of(read_plan, office_of(2, 1), "shut 0 : . ; " + text), 5)
        self.assertEqual(self.place_of(read_deed, office_of(2, 2), "under 0 0"), 2)
        self.assertEqual(self.place_of(read_deed, office_of(2, 2), "under"), 1)

    def test_what_is_no_text(self):
        self.assert_no_texts(read_deed, OFFICE)

    def test_bad_office_comes_first(self):
        for office in BAD_OFFICES[::5]:
            for text in ["shut 0", "x", None]:
                for call in (read_deed, read_plan):
                    with self.assertRaises(BadOffice):
                        call(office, text)


class Plans(Texts):
    def test_there_and_back(self):
        for office, plan in some_offices(120, 333) + [(OFFICE, PLAN), (OFFICE, LONG_PLAN), (OFFICE, ())]:
            text = show_plan(plan)
            self.assertEqual(text, plan_text(plan))
            self.assertEqual(read_plan(office, text), plan)
        plan = ((("over", 1, 0), ("+", "a")), (("bar", 0, ("p", 0)), ()), (("login", 2), ("k",)))
        self.assertEqual(show_plan(plan), "over 1 0 : + a ; bar 0 p0 : . ; login 2 : k")
        self.assertEqual(read_plan(office=OFFICE, text="none"), ())

    def test_broken_ones(self):
        chance = random.Random(334)
        pool = POOL + ["k", "b", "2", "4", "p0", "write", "bar"]
        places = set()
        for office, plan in some_offices(14, 335) + [(OFFICE, LONG_PLAN[:2]), (OFFICE, ())]:
            house, _, book = office
            names = [name for name, _ in book]
            texts = sorted(set(broken_texts(plan_text(plan), pool)))
            for text in chance.sample(texts, min(len(texts), 600)):
                place = plan_place(house[0], len(house[2]), names, text)
                self.assertEqual(self.place_of(read_plan, office, text), place, text)
                places.add(place)
                if place is None:
                    self.assertEqual(plan_text(read_plan(office, text)), text)
        self.assertGreater(len(places), 20)

    def test_places(self):
        for text, place in [
            ("", 0),
            ("none ", 1),
            ("none none", 1),
            ("none ; shut 0 : .", 1),
            ("shut 0 : . ; none", 5),
            ("shut 0", 2),
            ("shut 0 ", 2),
            ("shut 0 :", 3),
            ("shut 0 : ", 3),
            ("shut 0 : . ", 4),
            ("shut 0 : . .", 4),
            ("shut 0 : . a", 4),
            ("shut 0 : a .", 4),
            ("shut 0 : a ;", 5),
            ("shut 0 : a ; ", 5),
            ("shut 0 : ;", 3),
            ("shut 0 : b", 3),
            ("shut 0 : a + b", 5),
            ("shut 4 : a", 1),
            ("login 3 : a", 1),
            ("shut 0 : a k a k a k a k", None),
            ("shut 0 : a k a k a k a k a", 11),
            ("shut 0 : a k a k a k a k b", 11),
            ("shut 0 : a k a k a k a k ; shut 1", 14),
            ("shut 0: a", 1),
            ("shut 0 : a;", 3),
            ("shut 0 : a\n", 3),
            (" ; ".join(["shut 0 : ."] * 8), None),
            (" ; ".join(["shut 0 : ."] * 9), 39),
            (" ; ".join(["shut 0 : ."] * 8) + " ;", 39),
            (" ; ".join(["shut 0 : ."] * 8) + " x", 39),
            ("shut 0 : . shut 1 : .", 4),
        ]:
            self.assertEqual(self.place_of(read_plan, OFFICE, text), place, text)

    def test_what_is_no_text(self):
        self.assert_no_texts(read_plan, OFFICE)


if __name__ == "__main__":
    unittest.main()
