import itertools
import random
import unittest

from code_samples import (
    BAD_CODES,
    BAD_GAPS,
    BAD_SCHEMES,
    BIG_SCHEMES,
    SCHEME,
    SCHEMES,
    all_codes,
    fits,
    is_right_by_hand,
    right_by_hand,
    some_schemes,
    sums_by_hand,
)
from samples import bad_numbers

from officepapers.errors import BadGap, BadNumber, NotRight
from officepapers.schemes import (
    count_below,
    count_fills,
    count_right,
    is_code,
    is_right,
    is_scheme,
    next_right,
    nth_fill,
    nth_right,
    number_of,
    sure_digits,
)


class Schemes(unittest.TestCase):
    def test_right_schemes(self):
        for scheme in SCHEMES + BIG_SCHEMES + some_schemes(60, 41):
            self.assertIs(is_scheme(scheme), True, scheme)
        for scheme in [(2, 2, (0, 0), 0), (10, 30, (29,) * 6, 29), (2, 30, (29, 0), 29), (10, 2, (1, 1), 1)]:
            self.assertIs(is_scheme(thing=scheme), True, scheme)
        for base in range(2, 11):
            for modulus in range(2, 31):
                self.assertIs(is_scheme((base, modulus, (modulus - 1, 0), modulus - 1)), True)
        for many in range(2, 7):
            self.assertIs(is_scheme((2, 2, (1,) * many, 0)), True)

    def test_wrong_schemes(self):
        for thing in BAD_SCHEMES:
            self.assertIs(is_scheme(thing), False, thing)

    def test_bounds_that_depend_on_the_modulus(self):
        for modulus in range(2, 31):
            for scheme in [(5, modulus, (0, modulus), 0), (5, modulus, (modulus, 0), 0), (5, modulus, (0, 0), modulus)]:
                self.assertIs(is_scheme(scheme), False, scheme)


class Codes(unittest.TestCase):
    def test_codes(self):
        for code in all_codes(SCHEME):
            self.assertIs(is_code(SCHEME, code), True)
        for thing in BAD_CODES:
            self.assertIs(is_code(SCHEME, thing), False, thing)
        self.assertIs(is_code((2, 2, (1, 1), 0), (1, 1)), True)
        self.assertIs(is_code((2, 2, (1, 1), 0), (1, 2)), False)
        self.assertIs(is_code((10, 2, (1,) * 6, 0), (9,) * 6), True)
        self.assertIs(is_code((10, 2, (1,) * 6, 0), (9,) * 5 + (10,)), False)

    def test_right_codes(self):
        for scheme in some_schemes(40, 42):
            for code in all_codes(scheme):
                self.assertIs(is_right(scheme, code), is_right_by_hand(scheme, code))
        self.assertIs(is_right((10, 11, (4, 3, 2, 1), 0), (1, 2, 3, 5)), False)
        self.assertIs(is_right((10, 11, (4, 3, 2, 1), 0), (1, 2, 3, 6)), True)


class Numbers(unittest.TestCase):
    def test_against_all_codes(self):
        for scheme in some_schemes(60, 43):
            right = right_by_hand(scheme)
            self.assertEqual(count_right(scheme), len(right))
            self.assertEqual([nth_right(scheme, number) for number in range(len(right))], right)
            self.assertEqual([number_of(scheme, code) for code in right], list(range(len(right))))
            for code in all_codes(scheme):
                self.assertEqual(count_below(scheme, code), len([other for other in right if other < code]))
                self.assertEqual(next_right(scheme, code), min([other for other in right if other > code], default=None))

    def test_the_first_and_the_last_number_and_those_beyond(self):
        for scheme in SCHEMES + BIG_SCHEMES:
            many = count_right(scheme)
            for number in [-1, many, many + 1, 10 ** 59]:
                with self.assertRaises(BadNumber):
                    nth_right(scheme, number)
            if many:
                first, last = nth_right(scheme, 0), nth_right(scheme, many - 1)
                self.assertEqual((number_of(scheme, first), number_of(scheme, last)), (0, many - 1))
                self.assertIs(type(first), tuple)
                self.assertIsNone(next_right(scheme, last))

    def test_what_is_no_number(self):
        many = count_right(SCHEME)
        for thing in bad_numbers(many - 1):
            with self.assertRaises(BadNumber):
                nth_right(SCHEME, thing)

    def test_no_right_code(self):
        for scheme in [(3, 6, (2, 4, 2), 1), (2, 30, (1, 2, 3), 7), (3, 5, (0, 0, 0), 2), (10, 2, (0,) * 6, 1)]:
            self.assertEqual(count_right(scheme), 0)
            zero = (0,) * len(scheme[2])
            self.assertIsNone(next_right(scheme, zero))
            self.assertEqual(count_below(scheme, (scheme[0] - 1,) * len(zero)), 0)
            for number in (0, 1, -1):
                with self.assertRaises(BadNumber):
                    nth_right(scheme, number)
            with self.assertRaises(NotRight):
                number_of(scheme, zero)

    def test_codes_that_are_not_right_have_no_number(self):
        for scheme in some_schemes(30, 44):
            for code in all_codes(scheme):
                if not is_right_by_hand(scheme, code):
                    with self.assertRaises(NotRight):
                        number_of(scheme, code)

    def test_a_million_codes(self):
        chance = random.Random(45)
        for scheme in BIG_SCHEMES:
            many = count_right(scheme)
            self.assertEqual(many, sums_by_hand(scheme, (None,) * 6))
            for number in [0, many - 1] + [chance.randrange(many) for _ in range(30 if many else 0)]:
                if many == 0:
                    break
                code = nth_right(scheme, number)
                self.assertTrue(is_right_by_hand(scheme, code))
                self.assertEqual(number_of(scheme, code), number)
                behind = nth_right(scheme, number + 1) if number + 1 < many else None
                self.assertEqual(next_right(scheme, code), behind)
                # Between neighbours no code is right.
                value = as_value(code) + 1
                while value < 10 ** 6 and not is_right_by_hand(scheme, as_code(value)):
                    value += 1
                self.assertEqual(behind, as_code(value) if value < 10 ** 6 else None)

    def test_counts_among_a_million_codes(self):
        chance = random.Random(46)
        for scheme in BIG_SCHEMES:
            for _ in range(20):
                code = as_code(chance.randrange(10 ** 6))
                # Those below have a lesser digit at some place and the same digits ahead of it.
                gaps = [
                    code[:at] + (digit,) + (None,) * (5 - at) for at in range(6) for digit in range(code[at])
                ]
                self.assertEqual(count_below(scheme, code), sum(sums_by_hand(scheme, gap) for gap in gaps))
        self.assertEqual(count_right((10, 2, (0,) * 6, 0)), 10 ** 6)
        self.assertEqual(nth_right((10, 2, (0,) * 6, 0), 123456), (1, 2, 3, 4, 5, 6))
        self.assertEqual(count_below((10, 2, (0,) * 6, 0), (9,) * 6), 999999)
        self.assertIsNone(next_right((10, 2, (0,) * 6, 0), (9,) * 6))


class Gaps(unittest.TestCase):
    def assert_fills(self, scheme, gap, right):
        fills = [code for code in right if fits(code, gap)]
        self.assertEqual(count_fills(scheme, gap), len(fills))
        self.assertEqual([nth_fill(scheme, gap, number) for number in range(len(fills))], fills)
        for number in (-1, len(fills)):
            with self.assertRaises(BadNumber):
                nth_fill(scheme, gap, number)
        if fills:
            sure = tuple(digits[0] if len(set(digits)) == 1 else None for digits in zip(*fills))
            self.assertEqual(sure_digits(scheme, gap), sure)
            self.assertIs(type(sure_digits(scheme, gap)), tuple)
        else:
            with self.assertRaises(NotRight):
                sure_digits(scheme, gap)

    def test_all_gaps_against_all_codes(self):
        for scheme in [(2, 2, (1, 1), 0), (2, 3, (1, 2, 0), 1), (3, 6, (2, 4, 3), 1), (3, 6, (2, 4, 2), 1)]:
            right = right_by_hand(scheme)
            for gap in itertools.product([None, *range(scheme[0])], repeat=len(scheme[2])):
                self.assert_fills(scheme, gap, right)

    def test_some_gaps_against_all_codes(self):
        chance = random.Random(47)
        for scheme in some_schemes(50, 48):
            right = right_by_hand(scheme)
            for code in chance.sample(all_codes(scheme), 3):
                for hidden in (0.3, 0.7):
                    self.assert_fills(scheme, tuple(None if chance.random() < hidden else d for d in code), right)
            self.assert_fills(scheme, (None,) * len(scheme[2]), right)

    def test_gaps_with_no_digit_and_with_all_digits(self):
        self.assertEqual(count_fills(SCHEME, (None, None, None)), count_right(SCHEME))
        self.assertEqual(nth_fill(SCHEME, (None, None, None), 4), nth_right(SCHEME, 4))
        code = nth_right(SCHEME, 3)
        self.assertEqual(count_fills(SCHEME, code), 1)
        self.assertEqual(nth_fill(SCHEME, code, 0), code)
        self.assertEqual(sure_digits(SCHEME, code), code)
        self.assertEqual(count_fills(SCHEME, (0, 0, 0)), 0)
        with self.assertRaises(NotRight):
            sure_digits(SCHEME, (0, 0, 0))

    def test_a_sure_digit_in_a_gap(self):
        scheme = (10, 11, (4, 3, 2, 1), 0)
        self.assertEqual(sure_digits(scheme, (1, 2, 3, None)), (1, 2, 3, 6))
        self.assertEqual(sure_digits(scheme, (1, None, 3, None)), (1, None, 3, None))
        self.assertEqual(sure_digits((2, 2, (1, 0), 1), (None, None)), (1, None))

    def test_gaps_among_a_million_codes(self):
        chance = random.Random(49)
        for scheme in BIG_SCHEMES:
            for hidden in [1, 0.5, 0.8]:
                gap = tuple(None if chance.random() < hidden else chance.randrange(10) for _ in range(6))
                many = sums_by_hand(scheme, gap)
                self.assertEqual(count_fills(scheme, gap), many)
                numbers = [0, many - 1] + [chance.randrange(many) for _ in range(5)] if many else []
                found = [nth_fill(scheme, gap, number) for number in sorted(set(numbers))]
                self.assertEqual(found, sorted(set(found)))
                for code in found:
                    self.assertTrue(fits(code, gap) and is_right_by_hand(scheme, code))
                if many:
                    self.assertEqual(sure_digits(scheme, gap), sure_by_sums(scheme, gap))

    def test_what_is_no_gap_and_no_number(self):
        for thing in BAD_GAPS:
            for function in (count_fills, sure_digits, lambda scheme, gap: nth_fill(scheme, gap, 0)):
                with self.assertRaises(BadGap):
                    function(SCHEME, thing)
        gap = (None, 1, None)
        for thing in bad_numbers(count_fills(SCHEME, gap) - 1):
            with self.assertRaises(BadNumber):
                nth_fill(SCHEME, gap, thing)


def as_code(value):
    return tuple(value // 10 ** at % 10 for at in reversed(range(6)))


def as_value(code):
    value = 0
    for digit in code:
        value = 10 * value + digit
    return value


def sure_by_sums(scheme, gap):
    sure = []
    for at in range(len(gap)):
        found = [
            digit
            for digit in range(scheme[0])
            if gap[at] in (None, digit) and sums_by_hand(scheme, gap[:at] + (digit,) + gap[at + 1:])
        ]
        sure.append(found[0] if len(found) == 1 else None)
    return tuple(sure)


if __name__ == "__main__":
    unittest.main()
