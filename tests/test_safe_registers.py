import sys
import unittest

from code_samples import (
    BAD_SCHEMES,
    BIG_SCHEMES,
    SCHEME,
    all_codes,
    is_near,
    register_by_hand,
    right_by_hand,
    some_schemes,
    sums_by_hand,
)

from officepapers.errors import BadNumber, BadScheme
from officepapers.live import Live
from officepapers.slips import near_pairs, safe_register

DESK = (10, 11, (4, 3, 2, 1), 0)
PLAIN = (10, 2, (0,) * 6, 0)
COUNTS = range(9)
BAD_COUNTS = (-1, 9, 10 ** 50, -10 ** 50, True, False, None, "1", b"1", (), (1,), [1])
# Each of them has more beginnings of codes, or more codes near those that are taken, to go through than most others.
LONG_SCHEMES = [
    (10, 30, (1, 0, 0, 0, 0, 0), 9),
    (10, 30, (10, 5, 0, 0, 0, 0), 15),
    (7, 29, (14, 0, 0, 0, 14, 1), 26),
    (10, 6, (3, 3, 0, 1, 0), 4),
    (10, 15, (1, 7, 0, 1, 0, 1), 12),
    (9, 11, (0, 1, 5, 0), 2),
    (6, 23, (0, 0, 0, 0, 11, 11), 18),
    (10, 3, (0, 0, 0, 0, 0, 0), 0),
]


class ByTheWords(unittest.TestCase):
    def test_code_by_code_with_near_pairs(self):
        many_codes = []
        for scheme in some_schemes(400, 59):
            wanted = registers_by_words(scheme)
            self.assertEqual([safe_register(scheme, count) for count in COUNTS], wanted, scheme)
            many_codes.append(max(len(codes) for codes in wanted if codes is not None))
        # Some of the schemes have eight codes, and of each lesser number some have no more.
        self.assertEqual(set(many_codes), set(COUNTS))

    def test_code_by_code_by_hand(self):
        for scheme in some_schemes(60, 60) + some_schemes(60, 61, 4096)[-30:]:
            for count in COUNTS:
                self.assertEqual(safe_register(scheme, count), register_by_hand(scheme, count), (scheme, count))

    def test_the_scheme_of_the_desk(self):
        wanted = registers_by_words(DESK)
        self.assertEqual([safe_register(DESK, count) for count in COUNTS], wanted)
        self.assertEqual([register_by_hand(DESK, count) for count in COUNTS], wanted)
        self.assertEqual(wanted[3], ((0, 0, 0, 0), (0, 1, 1, 6), (0, 2, 2, 1)))

    def test_no_code_is_read_as_two(self):
        for scheme in some_schemes(40, 62):
            codes = longest(scheme)
            for code in all_codes(scheme):
                self.assertLessEqual(len([other for other in codes if is_near(code, other)]), 1)

    def test_a_million_codes(self):
        for scheme in BIG_SCHEMES:
            codes = safe_register(scheme, 8)
            if codes is None:
                self.assertEqual(sums_by_hand(scheme, (None,) * 6), 0)
                continue
            self.assertIs(type(codes), tuple)
            self.assertEqual(len(codes), 8)
            self.assertEqual(near_pairs(scheme, codes), [])
            for many in COUNTS:
                self.assertEqual(safe_register(scheme, many), codes[:many])
        self.assertEqual(safe_register(PLAIN, 2), ((0,) * 6, (0, 0, 0, 1, 1, 1)))


class Apart(unittest.TestCase):
    def test_two_unlike_digits_are_near_and_three_are_not(self):
        self.assertIsNone(safe_register((2, 2, (0, 0), 0), 2))
        self.assertIsNone(safe_register((2, 2, (1, 1), 0), 2))
        self.assertEqual(safe_register((2, 2, (1, 1), 0), 1), ((0, 0),))
        self.assertEqual(safe_register((2, 2, (0, 0, 0), 0), 2), ((0, 0, 0), (1, 1, 1)))
        self.assertIsNone(safe_register((2, 2, (0, 0, 0), 0), 3))

    def test_an_exchange_and_a_digit_are_near(self):
        # 1012 is unlike 0000, 0111 and 0222 at three places, but read as 0112, which is read as 0111.
        scheme = (3, 2, (0, 0, 0, 0), 0)
        wanted = ((0, 0, 0, 0), (0, 1, 1, 1), (0, 2, 2, 2), (1, 1, 0, 2), (2, 2, 0, 1))
        self.assertEqual(longest(scheme), wanted)
        self.assertEqual(near_pairs(scheme, ((0, 1, 1, 1), (1, 0, 1, 2))), [((0, 1, 1, 1), (1, 0, 1, 2))])

    def test_two_exchanges_are_near(self):
        self.assertEqual(right_by_hand((2, 3, (1, 2, 2, 0), 1)), [(0, 1, 1, 0), (0, 1, 1, 1), (1, 0, 0, 0), (1, 0, 0, 1)])
        self.assertEqual(longest((2, 3, (1, 2, 2, 0), 1)), ((0, 1, 1, 0),))
        # Of the same digit and two others in turn, this way and that.
        for scheme, other in [((3, 30, (1, 9, 5), 19), (1, 2, 0)), ((3, 30, (5, 1, 9), 19), (2, 0, 1))]:
            self.assertEqual(right_by_hand(scheme), [(0, 1, 2), other])
            self.assertEqual(longest(scheme), ((0, 1, 2),))

    def test_none_where_no_code_is_right(self):
        for scheme in [(3, 6, (2, 4, 2), 1), (10, 2, (0,) * 6, 1), (10, 2, (0, 0), 1), (2, 30, (1, 2, 3), 7)]:
            self.assertEqual(safe_register(scheme, 0), ())
            for count in COUNTS[1:]:
                self.assertIsNone(safe_register(scheme, count))


class Wrong(unittest.TestCase):
    def test_what_is_no_scheme(self):
        for thing in BAD_SCHEMES:
            for count in (0, 8, 9, None):
                with self.assertRaises(BadScheme):
                    safe_register(thing, count)

    def test_bounds_of_the_count(self):
        for scheme in (SCHEME, DESK, (2, 2, (0, 0), 0), (10, 2, (0,) * 6, 1)):
            for count in BAD_COUNTS:
                with self.assertRaises(BadNumber):
                    safe_register(scheme, count)


class Work(unittest.TestCase):
    """Calls are counted instead of time, which would be told otherwise by a machine that has other work, too."""

    def test_few_calls_for_the_desk(self):
        self.assertLess(calls_of(lambda: safe_register(DESK, 8)), 1200)
        self.assertLess(calls_of(lambda: safe_register(DESK, 0)), 40)

    def test_few_calls_for_other_schemes_too(self):
        for scheme in BIG_SCHEMES + LONG_SCHEMES + some_schemes(200, 63) + some_schemes(200, 64, 10 ** 6):
            self.assertLess(calls_of(lambda: safe_register(scheme, 8)), 5000, scheme)

    def test_few_calls_for_a_find(self):
        live = Live(((1, (), (False,), (), ()), ("bar", "keeps", "now", True), ()), 0)
        for number in range(8):
            live.do(("write", 0, number % 4))
        self.assertLess(calls_of(lambda: live.find(DESK, (0, 0, 0, 0))), 2500)
        self.assertEqual(live.find(DESK, safe_register(DESK, 8)[7]), [(7, 0)])


def registers_by_words(scheme):
    """The list of the registers of all counts, taken code by code, with None where there are fewer."""
    taken = []
    for code in right_by_hand(scheme):
        if len(taken) < 8 and not near_pairs(scheme, (*taken, code)):
            taken.append(code)
    return [tuple(taken[:count]) if count <= len(taken) else None for count in COUNTS]


def longest(scheme):
    """The register of the scheme with as many codes as there are, or eight."""
    return [codes for codes in [safe_register(scheme, count) for count in COUNTS] if codes is not None][-1]


def calls_of(work):
    """How many calls of functions the work makes."""
    made = []
    before = sys.getprofile()
    sys.setprofile(lambda frame, event, told: made.append(event))
    try:
        work()
    finally:
        sys.setprofile(before)
    return made.count("call")


if __name__ == "__main__":
    unittest.main()
