import itertools
import random
import unittest

from code_samples import (
    BAD_KINDS,
    BIG_SCHEMES,
    SCHEME,
    all_codes,
    is_near,
    is_right_by_hand,
    is_slip,
    right_by_hand,
    some_schemes,
    sums_by_hand,
)

from officepapers.errors import BadKind, BadRegister
from officepapers.slips import (
    closest_right,
    count_unnoticed,
    fixes,
    near_pairs,
    read_typed,
    safe_register,
    unnoticed,
)

KINDS = ("digit", "swap")
PLAIN = (10, 2, (0,) * 6, 0)


class Fixes(unittest.TestCase):
    def test_against_all_codes(self):
        for scheme in some_schemes(50, 51, 130):
            right = right_by_hand(scheme)
            for code in all_codes(scheme):
                wanted = [other for other in right if other != code and is_near(code, other)]
                self.assertEqual(fixes(scheme, code), wanted, (scheme, code))

    def test_codes_that_are_right_and_codes_that_are_not(self):
        scheme = (10, 11, (4, 3, 2, 1), 0)
        self.assertEqual(fixes(scheme, (1, 2, 3, 6)), [])
        wanted = [other for other in right_by_hand(scheme) if is_near((1, 2, 6, 3), other)]
        self.assertEqual(fixes(scheme, (1, 2, 6, 3)), wanted)
        self.assertIn((1, 2, 3, 6), fixes(scheme, (1, 2, 6, 3)))
        self.assertIn((1, 2, 3, 6), fixes(scheme, (1, 7, 3, 6)))

    def test_like_neighbours_are_not_exchanged(self):
        self.assertEqual(fixes((2, 30, (1, 2, 3), 3), (1, 1, 0)), [])
        self.assertEqual(fixes((2, 2, (0, 0), 0), (1, 1)), [(0, 1), (1, 0)])
        self.assertEqual(fixes((2, 2, (0, 0), 0), (0, 1)), [(0, 0), (1, 0), (1, 1)])

    def test_a_new_list_each_time(self):
        first = fixes(PLAIN, (1, 2, 3, 4, 5, 6))
        self.assertIs(type(first), list)
        self.assertEqual(len(first), 6 * 9 + 5)
        first.clear()
        self.assertEqual(len(fixes(PLAIN, (1, 2, 3, 4, 5, 6))), 6 * 9 + 5)


class Unnoticed(unittest.TestCase):
    def test_against_all_codes(self):
        for scheme in some_schemes(60, 52, 130):
            right = right_by_hand(scheme)
            for kind in KINDS:
                pairs = [pair for pair in itertools.combinations(right, 2) if is_slip(*pair, kind)]
                self.assertEqual(unnoticed(scheme, kind), min(pairs, default=None), (scheme, kind))
                self.assertEqual(count_unnoticed(scheme, kind), len(pairs), (scheme, kind))

    def test_schemes_that_notice_all_slips(self):
        for scheme in [(10, 11, (7, 6, 5, 4, 3, 2), 0), (10, 11, (4, 3, 2, 1), 0), (2, 3, (1, 2), 0)]:
            for kind in KINDS:
                self.assertIsNone(unnoticed(scheme, kind))
                self.assertEqual(count_unnoticed(scheme, kind), 0)

    def test_a_million_codes(self):
        for scheme in BIG_SCHEMES:
            for kind in KINDS:
                many = count_by_sums(scheme, kind)
                self.assertEqual(count_unnoticed(scheme, kind), many)
                found = unnoticed(scheme, kind)
                self.assertEqual(found is None, many == 0)
                if found:
                    self.assertTrue(is_slip(*found, kind) and found[0] < found[1])
                    self.assertEqual(found, least_pair(scheme, kind))
        self.assertEqual(unnoticed(PLAIN, "digit"), ((0, 0, 0, 0, 0, 0), (0, 0, 0, 0, 0, 1)))
        self.assertEqual(unnoticed(PLAIN, "swap"), ((0, 0, 0, 0, 0, 1), (0, 0, 0, 0, 1, 0)))
        self.assertEqual(count_unnoticed(PLAIN, "digit"), 6 * 45 * 10 ** 5)
        self.assertEqual(count_unnoticed(PLAIN, "swap"), 5 * 45 * 10 ** 4)

    def test_a_slip_that_is_seldom_unnoticed(self):
        # Of the weight 15 by 30 digits that are unlike by an even number leave alike sums.
        scheme = (10, 30, (15, 7, 1, 11, 13, 29), 3)
        code, other = unnoticed(scheme, "digit")
        self.assertEqual((code[0] % 2, code[1:]), (other[0] % 2, other[1:]))
        self.assertEqual(count_unnoticed(scheme, "digit"), count_by_sums(scheme, "digit"))

    def test_what_is_no_kind(self):
        for thing in BAD_KINDS:
            for function in (unnoticed, count_unnoticed):
                with self.assertRaises(BadKind):
                    function(SCHEME, thing)


class ClosestRight(unittest.TestCase):
    def test_against_all_codes(self):
        for scheme in some_schemes(60, 53, 130):
            right = right_by_hand(scheme)
            for code in all_codes(scheme):
                unlike = [(sum(map(int.__ne__, code, other)), other) for other in right]
                self.assertEqual(closest_right(scheme, code), min(unlike, default=None), (scheme, code))

    def test_none_is_right(self):
        for scheme in [(3, 6, (2, 4, 2), 1), (2, 30, (1, 2, 3), 7), (10, 2, (0,) * 6, 1)]:
            self.assertIsNone(closest_right(scheme, (0,) * len(scheme[2])))

    def test_a_right_code_is_its_own(self):
        self.assertEqual(closest_right(PLAIN, (9, 0, 9, 0, 9, 0)), (0, (9, 0, 9, 0, 9, 0)))

    def test_all_digits_may_have_to_change(self):
        self.assertEqual(closest_right((2, 30, (1,) * 6, 6), (0,) * 6), (6, (1,) * 6))
        self.assertEqual(closest_right((10, 30, (1, 1), 18), (0, 0)), (2, (9, 9)))

    def test_a_million_codes(self):
        chance = random.Random(54)
        for scheme in BIG_SCHEMES:
            for _ in range(12):
                code = tuple(chance.choice([0, 9, chance.randrange(10)]) for _ in range(6))
                self.assertEqual(closest_right(scheme, code), closest_by_changes(scheme, code), (scheme, code))


class Registers(unittest.TestCase):
    def test_near_pairs_against_all_codes(self):
        chance = random.Random(55)
        for scheme in some_schemes(60, 56, 130):
            codes, right = all_codes(scheme), right_by_hand(scheme)
            for many in (0, 1, 2, 5, 8):
                register = tuple(sorted(chance.sample(right, min(many, len(right)))))
                wanted = [
                    pair
                    for pair in itertools.combinations(register, 2)
                    if any(is_near(code, pair[0]) and is_near(code, pair[1]) for code in codes)
                ]
                self.assertEqual(near_pairs(scheme, register), wanted, (scheme, register))

    def test_slips_of_unlike_kinds_for_the_two(self):
        # 0123 is one digit from 0124 and one exchange from 1023.
        self.assertEqual(near_pairs((10, 2, (0,) * 4, 0), ((0, 1, 2, 4), (1, 0, 2, 3))), [((0, 1, 2, 4), (1, 0, 2, 3))])
        # Two exchanges, and three digits that are unlike.
        self.assertEqual(near_pairs((10, 2, (0,) * 4, 0), ((0, 1, 2, 3), (1, 2, 0, 3))), [((0, 1, 2, 3), (1, 2, 0, 3))])
        self.assertEqual(near_pairs((10, 2, (0,) * 4, 0), ((0, 1, 2, 3), (0, 4, 5, 6))), [])
        # Two digits; one exchange alone; four digits by two exchanges.
        for other in [(0, 1, 5, 4), (0, 1, 3, 2), (1, 0, 3, 2)]:
            self.assertEqual(len(near_pairs((10, 2, (0,) * 4, 0), tuple(sorted([(0, 1, 2, 3), other])))), 1)

    def test_several_pairs_ascend(self):
        register = ((0, 0), (0, 1), (1, 0), (1, 1))
        self.assertEqual(near_pairs((2, 2, (0, 0), 0), register), list(itertools.combinations(register, 2)))
        register = tuple((0, 0, 0, digit) for digit in range(8))
        self.assertEqual(len(near_pairs((10, 2, (0,) * 4, 0), register)), 28)

    def test_read_typed_against_all_codes(self):
        chance = random.Random(57)
        for scheme in some_schemes(60, 58, 130):
            right = right_by_hand(scheme)
            for many in (0, 1, 8):
                register = tuple(sorted(chance.sample(right, min(many, len(right)))))
                for code in all_codes(scheme):
                    wanted = [other for other in register if is_near(code, other)]
                    self.assertEqual(read_typed(scheme, register, code), wanted)

    def test_read_typed_of_a_safe_register_is_one_code_at_most(self):
        scheme = (10, 11, (4, 3, 2, 1), 0)
        register = safe_register(scheme, 8)
        read = [read_typed(scheme, register, code) for code in all_codes(scheme)]
        self.assertEqual({len(codes) for codes in read}, {0, 1})
        self.assertEqual(sorted(set(itertools.chain(*read))), list(register))

    def test_registers_of_eight_are_right_and_of_nine_are_not(self):
        right = right_by_hand(SCHEME)
        for function in (near_pairs, lambda scheme, codes: read_typed(scheme, codes, right[0])):
            function(SCHEME, tuple(right[:8]))
            function(SCHEME, ())
            with self.assertRaises(BadRegister):
                function(SCHEME, tuple(right[:9]))

    def test_new_lists_each_time(self):
        register = ((0, 0), (0, 1))
        scheme = (2, 2, (0, 0), 0)
        for made in (lambda: near_pairs(scheme, register), lambda: read_typed(scheme, register, (0, 0))):
            first = made()
            self.assertIs(type(first), list)
            kept = list(first)
            first.append(None)
            self.assertEqual(made(), kept)


def slips_by_hand(scheme, code):
    slips = []
    for at in range(len(code)):
        slips += [code[:at] + (digit,) + code[at + 1:] for digit in range(scheme[0]) if digit != code[at]]
        if at and code[at] != code[at - 1]:
            slips.append(code[:at - 1] + (code[at], code[at - 1]) + code[at + 1:])
    return slips


def count_by_sums(scheme, kind):
    """How many pairs of right codes are one slip of the kind apart, by counting sums."""
    base, modulus, weights, _ = scheme
    many = 0
    for at in range(len(weights) - (kind == "swap")):
        for low, high in itertools.combinations(range(base), 2):
            gap = [None] * len(weights)
            gap[at] = low
            code, other = list(gap), list(gap)
            other[at] = high
            if kind == "swap":
                gap[at + 1] = code[at + 1] = high
                other[at + 1] = low
            sums = [sum(w * d for w, d in zip(weights, row) if d is not None) for row in (code, other)]
            if (sums[0] - sums[1]) % modulus == 0:
                many += sums_by_hand(scheme, gap)
    return many


def least_pair(scheme, kind):
    """The least pair, looked for among the codes in their order."""
    for code in itertools.product(range(scheme[0]), repeat=len(scheme[2])):
        if is_right_by_hand(scheme, code):
            found = [
                other
                for other in slips_by_hand(scheme, code)
                if other > code and is_slip(code, other, kind) and is_right_by_hand(scheme, other)
            ]
            if found:
                return (code, min(found))
    return None


def closest_by_changes(scheme, code):
    """The closest right code, looked for among those with one change, with two, and so on."""
    base = scheme[0]
    for many in range(len(code) + 1):
        found = []
        for places in itertools.combinations(range(len(code)), many):
            others = [[digit for digit in range(base) if digit != code[at]] for at in places]
            for digits in itertools.product(*others):
                other = list(code)
                for at, digit in zip(places, digits):
                    other[at] = digit
                if is_right_by_hand(scheme, tuple(other)):
                    found.append(tuple(other))
        if found:
            return (many, min(found))
        if many == 3 and sums_by_hand(scheme, (None,) * len(code)) == 0:
            return None
    return None


if __name__ == "__main__":
    unittest.main()
