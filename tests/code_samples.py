"""What the tests of schemes and slips share: right and wrong values, and the document's rules done code by code."""

import functools
import itertools
import random

from samples import OTHERS, Odd

SCHEMES = [
    (2, 2, (1, 1), 0),
    (2, 2, (1, 1, 1, 1, 1, 1), 1),
    (3, 4, (1, 2, 3), 3),
    (3, 30, (29, 28, 27, 1), 0),
    (4, 6, (2, 4, 3), 1),
    (5, 5, (4, 3, 2, 1), 4),
    # No code is right: the weights and the modulus have a common divisor, or the weights are too few or all 0.
    (3, 6, (2, 4, 2), 1),
    (2, 30, (1, 2, 3), 7),
    (3, 5, (0, 0, 0), 2),
    # Each code is right.
    (3, 5, (0, 0, 0), 0),
    (2, 9, (0, 0, 0, 0, 0, 0), 0),
    # Weights 0 among others.
    (4, 7, (0, 3, 0, 5), 2),
    (10, 11, (2, 1), 0),
    (10, 10, (3, 1, 3), 9),
]

BIG_SCHEMES = [
    (10, 11, (7, 6, 5, 4, 3, 2), 0),
    (10, 30, (15, 10, 6, 3, 2, 1), 29),
    (10, 10, (1, 3, 1, 3, 1, 3), 7),
    (10, 2, (0, 0, 0, 0, 0, 0), 0),
    (10, 2, (0, 0, 0, 0, 0, 0), 1),
    (10, 30, (12, 24, 6, 18, 0, 12), 18),
    (10, 29, (28, 1, 17, 0, 5, 9), 3),
    (10, 30, (10, 20, 10, 20, 10, 20), 5),
]

BAD_SCHEMES = OTHERS + [
    5,
    "scheme",
    (),
    (10, 11, (1, 2)),
    (10, 11, (1, 2), 0, 0),
    [10, 11, (1, 2), 0],
    (10, 11, [1, 2], 0),
    (1, 11, (1, 2), 0),
    (11, 11, (1, 2), 0),
    (0, 11, (1, 2), 0),
    (-2, 11, (1, 2), 0),
    (True, 11, (1, 2), 0),
    ("2", 11, (1, 2), 0),
    (None, 11, (1, 2), 0),
    (10, 1, (0, 0), 0),
    (10, 31, (1, 2), 0),
    (10, 0, (1, 2), 0),
    (10, -2, (0, 0), 0),
    (10, True, (0, 0), 0),
    (10, "11", (1, 2), 0),
    (10, 11, (1,), 0),
    (10, 11, (), 0),
    (10, 11, (1, 2, 3, 4, 5, 6, 7), 0),
    (10, 11, (1, 11), 0),
    (10, 11, (-1, 1), 0),
    (10, 11, (1, True), 0),
    (10, 11, (False, 1), 0),
    (10, 11, (1, None), 0),
    (10, 11, ("1", 1), 0),
    (10, 11, "12", 0),
    (10, 11, None, 0),
    (10, 11, 5, 0),
    (10, 11, (1, 2), 11),
    (10, 11, (1, 2), -1),
    (10, 11, (1, 2), True),
    (10, 11, (1, 2), False),
    (10, 11, (1, 2), None),
    (10, 11, (1, 2), "0"),
    (Odd(), Odd(), Odd(), Odd()),
    (10, 11, (Odd(), 1), 0),
]

# The right values are those of this scheme in the tests of all functions.
SCHEME = (4, 6, (2, 4, 3), 1)

BAD_ROWS = OTHERS + [
    5,
    "123",
    (),
    (1, 2),
    (1, 2, 3, 0),
    [1, 2, 3],
    (1, 2, 4),
    (4, 0, 0),
    (-1, 0, 0),
    (0, 0, -1),
    (0, 1, True),
    (False, 1, 2),
    ("0", 1, 2),
    ((0,), 1, 2),
    (Odd(), 1, 2),
]

BAD_CODES = BAD_ROWS + [(0, None, 2), (None, None, None)]

BAD_GAPS = BAD_ROWS + [
    (None, None),
    (None, None, None, None),
    [None, None, None],
    (None, None, 4),
    (None, -1, None),
    (True, None, None),
    (None, None, False),
    (None, "0", None),
    (None, (), None),
    (None, Odd(), None),
]

BAD_KINDS = OTHERS + [5, (), "digits", "Digit", "swap ", "SWAP", "d", ("digit",), ["swap"], b"digit", "other"]

RIGHT = [code for code in itertools.product(range(4), repeat=3) if (2 * code[0] + 4 * code[1] + 3 * code[2]) % 6 == 1]

BAD_REGISTERS = OTHERS + [
    5,
    "123",
    tuple(RIGHT[:9]),
    list(RIGHT[:2]),
    (RIGHT[1], RIGHT[0]),
    (RIGHT[0], RIGHT[0]),
    (RIGHT[0], RIGHT[2], RIGHT[1]),
    (RIGHT[0], list(RIGHT[1])),
    (list(RIGHT[0]),),
    RIGHT[0],
    (None,),
    (RIGHT[0], None),
    (RIGHT[0] + (0,),),
    (RIGHT[0][:2],),
    ((0, 0, 0),),
    (RIGHT[0], (3, 3, 2)),
    (Odd(),),
] + [(code,) for code in BAD_CODES]


def all_codes(scheme):
    return list(itertools.product(range(scheme[0]), repeat=len(scheme[2])))


def is_right_by_hand(scheme, code):
    _, modulus, weights, rest = scheme
    return sum(weight * digit for weight, digit in zip(weights, code)) % modulus == rest


def right_by_hand(scheme):
    return [code for code in all_codes(scheme) if is_right_by_hand(scheme, code)]


def fits(code, gap):
    return all(entry is None or entry == digit for digit, entry in zip(code, gap))


def sums_by_hand(scheme, gap):
    """How many codes that fit the gap are right, told by counting sums instead of codes."""
    base, modulus, weights, rest = scheme
    counts = {0: 1}
    for weight, entry in zip(weights, gap):
        more = {}
        for total, many in counts.items():
            for digit in range(base) if entry is None else [entry]:
                more[total + weight * digit] = more.get(total + weight * digit, 0) + many
        counts = more
    return sum(many for total, many in counts.items() if total % modulus == rest)


def is_slip(code, other, kind):
    """Whether one slip of this kind makes the other code of the code."""
    unlike = [at for at in range(len(code)) if code[at] != other[at]]
    if kind == "digit":
        return len(unlike) == 1
    if len(unlike) != 2 or unlike[1] != unlike[0] + 1:
        return False
    return (code[unlike[0]], code[unlike[1]]) == (other[unlike[1]], other[unlike[0]])


def is_near(code, other):
    return code == other or is_slip(code, other, "digit") or is_slip(code, other, "swap")


def read_as(scheme, code):
    """All codes that are read as the code: itself, those with one digit changed, and with two neighbours exchanged."""
    found = {code}
    for at in range(len(code)):
        found |= {(*code[:at], digit, *code[at + 1:]) for digit in range(scheme[0])}
        found |= {(*code[:at], *code[at:at + 2][::-1], *code[at + 2:])}
    return found


@functools.cache
def register_by_hand(scheme, count):
    """The codes of which no code is read as two, each the least one, taken one after the other; None if too few."""
    taken, read = [], set()
    for code in right_by_hand(scheme):
        if len(taken) < count and not read & read_as(scheme, code):
            taken.append(code)
            read |= read_as(scheme, code)
    return tuple(taken) if len(taken) == count else None


def some_schemes(count, seed, most_codes=300):
    """Small schemes, those of the samples with so few codes among them."""
    chance = random.Random(seed)
    schemes = [scheme for scheme in SCHEMES if scheme[0] ** len(scheme[2]) <= most_codes]
    while len(schemes) < count:
        base, modulus = chance.randint(2, 10), chance.choice([2, 3, 4, 6, 7, 10, 11, 12, 29, 30])
        weights = tuple(chance.randrange(modulus) for _ in range(chance.randint(2, 6)))
        if base ** len(weights) <= most_codes:
            schemes.append((base, modulus, weights, chance.randrange(modulus)))
    return schemes
