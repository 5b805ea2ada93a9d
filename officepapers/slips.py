"""Slips: codes that are read with one digit changed or two neighbours exchanged, and registers safe from that."""

from officepapers.checks import is_rising, is_word, need_number
from officepapers.errors import BadKind, BadRegister
from officepapers.schemes import (
    count_in,
    has_digits,
    leaves_rest,
    need_code,
    need_scheme,
    nth_along,
    nth_in,
    open_gap,
    put_in,
    ways_along,
)

KINDS = ("digit", "swap")
MOST_CODES = 8
# More changes than a code has places: so a way that there is not is never one of the shortest.
TOO_MANY_CHANGES = 7


def fixes(scheme, code):
    """The list, ascending, of the right codes that one slip makes of the code."""
    need_scheme(scheme)
    need_code(scheme, code)
    return sorted([other for other in _slipped(scheme, code) if leaves_rest(scheme, other)])


def unnoticed(scheme, kind):
    """The least tuple of two right codes of which one slip of this kind makes the other; None if there is none."""
    need_scheme(scheme)
    _need_kind(kind)
    found = []
    for at, digits, others in _blind_slips(scheme, kind):
        gap = put_in(open_gap(scheme), at, digits)
        if count_in(scheme, gap) > 0:
            code = nth_in(scheme, gap, 0)
            found.append((code, put_in(code, at, others)))
    return min(found, default=None)


def count_unnoticed(scheme, kind):
    """How many such tuples as unnoticed returns the least one of there are."""
    need_scheme(scheme)
    _need_kind(kind)
    gap = open_gap(scheme)
    return sum([count_in(scheme, put_in(gap, at, digits)) for at, digits, _ in _blind_slips(scheme, kind)])


def closest_right(scheme, code):
    """At how few places a right code differs from the code, and the least one that does; None if no code is right."""
    need_scheme(scheme)
    need_code(scheme, code)
    along = _changes_along(scheme, code)
    count = along[0][scheme[3]]
    if count >= TOO_MANY_CHANGES:
        return None
    return count, _least_change(scheme, code, along)


def near_pairs(scheme, codes):
    """The list, ascending, of all pairs of the register's codes for which some code is each or one slip from it."""
    need_scheme(scheme)
    _need_register(scheme, codes)
    around = {code: [code, *_slipped(scheme, code)] for code in codes}
    pairs = []
    for at, code in enumerate(codes):
        near = set(around[code])
        for other in codes[at + 1:]:
            if any([read in near for read in around[other]]):
                pairs.append((code, other))
    return pairs


def read_typed(scheme, codes, code):
    """The list, ascending, of the codes of the register that are the code or one slip from it."""
    need_scheme(scheme)
    _need_register(scheme, codes)
    need_code(scheme, code)
    near = set([code, *_slipped(scheme, code)])
    return [other for other in codes if other in near]


def safe_register(scheme, count):
    """The register of so many codes, each the least one that is in no near pair with those ahead; None if too few."""
    need_scheme(scheme)
    need_number(count, MOST_CODES)
    gap = open_gap(scheme)
    along = ways_along(scheme, gap)
    taken = []
    # A code is in a near pair with one taken exactly if two slips or fewer lead from the one to the other.
    near = set()
    for number in range(along[0][scheme[3]]):
        if len(taken) == count:
            break
        code = nth_along(scheme, gap, along, number)
        if code not in near:
            taken.append(code)
            for read in [code, *_slipped(scheme, code)]:
                for other in _slipped(scheme, read):
                    near.add(other)
    return tuple(taken) if len(taken) == count else None


def _slipped(scheme, code):
    """The list, each once, of the codes that one slip of one of the kinds makes of the code."""
    digits = range(scheme[0])
    changed = [put_in(code, at, (digit,)) for at in range(len(code)) for digit in digits if digit != code[at]]
    pairs = [(at, code[at], code[at + 1]) for at in range(len(code) - 1)]
    return changed + [put_in(code, at, (other, digit)) for at, digit, other in pairs if digit != other]


def _blind_slips(scheme, kind):
    """The list of all (place, digits, others), others greater, for which right codes stay right.

    If they have the digits from this place on, they have the others there behind the slip of this kind.
    """
    base, modulus, weights, _ = scheme
    pairs = [(digit, other) for digit in range(base) for other in range(digit + 1, base)]
    slips = []
    for at, weight in enumerate(weights if kind == "digit" else weights[1:]):
        for digit, other in pairs:
            if kind == "digit":
                digits, others, change = (digit,), (other,), weight * (other - digit)
            else:
                digits, others, change = (digit, other), (other, digit), (weight - weights[at]) * (digit - other)
            if change % modulus == 0:
                slips.append((at, digits, others))
    return slips


def _changes_along(scheme, code):
    """For each place, and behind the last one, the list of how few digits of the code change from there on.

    The list tells it by what the weights times the changed digits from there on leave.
    """
    base, modulus, weights, _ = scheme
    changes = [0] + [TOO_MANY_CHANGES] * (modulus - 1)
    along = [changes]
    for at in reversed(range(len(weights))):
        steps = [(int(digit != code[at]), weights[at] * digit) for digit in range(base)]
        changes = [min([more + changes[(left - step) % modulus] for more, step in steps]) for left in range(modulus)]
        along.append(changes)
    return along[::-1]


def _least_change(scheme, code, along):
    """The least right code with as few changes as any, where along is what _changes_along has told of the code."""
    base, modulus, weights, left = scheme
    least = []
    for at, weight in enumerate(weights):
        for digit in range(base):
            behind = (left - weight * digit) % modulus
            if int(digit != code[at]) + along[at + 1][behind] == along[at][left]:
                break
        least.append(digit)
        left = behind
    return tuple(least)


def _need_kind(thing):
    if not is_word(thing, KINDS):
        raise BadKind("a kind of slip is 'digit' or 'swap'")


def _need_register(scheme, thing):
    if not (
        isinstance(thing, tuple)
        and len(thing) <= MOST_CODES
        and all([has_digits(scheme, code) and leaves_rest(scheme, code) for code in thing])
        and is_rising(thing)
    ):
        raise BadRegister(f"a register is a tuple of at most {MOST_CODES} right codes, ascending, without duplicates")
