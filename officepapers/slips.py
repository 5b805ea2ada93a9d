"""Slips: codes that are read with one digit changed or two neighbours exchanged, and registers safe from that."""

from officepapers.checks import is_rising, is_word, need_number
from officepapers.errors import BadKind, BadRegister
from officepapers.schemes import (
    count_in,
    has_digits,
    leaves_rest,
    need_code,
    need_scheme,
    nth_in,
    open_gap,
    put_in,
    ways_along,
)

KINDS = ("digit", "swap")
MOST_CODES = 8
# More changes than a code has places: so a way that there is not is never one of the shortest.
TOO_MANY_CHANGES = 7
# Two codes that are unlike at so many places, or at fewer, are in a near pair, whatever their digits are.
NEAR_PLACES = 2


def fixes(scheme, code):
    """The list, ascending, of the right codes that one slip makes of the code."""
    need_scheme(scheme)
    need_code(scheme, code)
    return sorted([other for other in _slipped(scheme, code) if leaves_rest(scheme, other)])


def unnoticed(scheme, kind):
    """The least tuple of two right codes of which one slip of this kind makes the other; None if there is none."""
    need_scheme(scheme)
    _need_kind(kind)
    found = []
    for at, digits, others in _blind_slips(scheme, kind):
        gap = put_in(open_gap(scheme), at, digits)
        if count_in(scheme, gap) > 0:
            code = nth_in(scheme, gap, 0)
            found.append((code, put_in(code, at, others)))
    return min(found, default=None)


def count_unnoticed(scheme, kind):
    """How many such tuples as unnoticed returns the least one of there are."""
    need_scheme(scheme)
    _need_kind(kind)
    gap = open_gap(scheme)
    return sum([count_in(scheme, put_in(gap, at, digits)) for at, digits, _ in _blind_slips(scheme, kind)])


def closest_right(scheme, code):
    """At how few places a right code differs from the code, and the least one that does; None if no code is right."""
    need_scheme(scheme)
    need_code(scheme, code)
    along = _changes_along(scheme, code)
    count = along[0][scheme[3]]
    if count >= TOO_MANY_CHANGES:
        return None
    return count, _least_change(scheme, code, along)


def near_pairs(scheme, codes):
    """The list, ascending, of all pairs of the register's codes for which some code is each or one slip from it."""
    need_scheme(scheme)
    _need_register(scheme, codes)
    around = {code: [code, *_slipped(scheme, code)] for code in codes}
    pairs = []
    for at, code in enumerate(codes):
        near = set(around[code])
        for other in codes[at + 1:]:
            if any([read in near for read in around[other]]):
                pairs.append((code, other))
    return pairs


def read_typed(scheme, codes, code):
    """The list, ascending, of the codes of the register that are the code or one slip from it."""
    need_scheme(scheme)
    _need_register(scheme, codes)
    need_code(scheme, code)
    near = set([code, *_slipped(scheme, code)])
    return [other for other in codes if other in near]


def safe_register(scheme, count):
    """The register of so many codes, each the least one that is in no near pair with those ahead; None if too few."""
    need_scheme(scheme)
    need_number(count, MOST_CODES)
    if count == 0:
        return ()
    along = ways_along(scheme, open_gap(scheme))
    if along[0][scheme[3]] < count:
        return None
    taken = _take_apart(scheme, along, count)
    return tuple(taken) if len(taken) == count else None


def _take_apart(scheme, along, count):
    """The list of the codes of a safe register, with fewer than count if there are no more; along is of ways_along."""
    ends = _ends_by_rest(scheme)
    taken = []
    # The codes taken and those that are one slip from one of them.
    read = {}
    # Beginnings of codes, the least one last, each with what the digits behind it have to leave.
    heads = [((), scheme[3])]
    while heads and len(taken) < count:
        head, left = heads.pop()
        if len(head) < len(scheme[2]) - NEAR_PLACES:
            heads.extend(_longer_heads(scheme, along, head, left))
            continue
        # Of the codes with this head one is taken at most: any two of them are in a near pair.
        code = _least_apart(head, ends[left], taken, read)
        if code is not None:
            taken.append(code)
            for other in [code, *_slipped(scheme, code)]:
                read[other] = True
    return taken


def _longer_heads(scheme, along, head, left):
    """The list, descending, of the beginnings of right codes that have one digit more, with what is left then."""
    base, modulus, weights, _ = scheme
    at = len(head)
    longer = [((*head, digit), (left - weights[at] * digit) % modulus) for digit in range(base - 1, -1, -1)]
    return [(other, behind) for other, behind in longer if along[at + 1][behind] > 0]


def _ends_by_rest(scheme):
    """The list, for each rest, of the pairs of digits, ascending, that leave it at the last two places."""
    base, modulus, weights, _ = scheme
    ends = [[] for _ in range(modulus)]
    for digit in range(base):
        for last in range(base):
            ends[(weights[-2] * digit + weights[-1] * last) % modulus].append((digit, last))
    return ends


def _least_apart(head, ends, taken, read):
    """The least code of this head and one of the ends that is in no near pair with one taken; None if there is none.

    A code that is in a near pair with one taken, and unlike it at more than two places, comes to it by an exchange and
    one slip more, and the exchange may come first: so it is enough to look whether an exchange makes of it one of read.
    """
    unlike = [(sum([int(one != two) for one, two in zip(head, code)]), code[-2], code[-1]) for code in taken]
    close = [row for row in unlike if row[0] <= NEAR_PLACES]
    for digit, last in ends:
        if all([many + int(digit != other) + int(last != end) > NEAR_PLACES for many, other, end in close]):
            code = (*head, digit, last)
            if not any([exchanged in read for exchanged in _exchanged(code)]):
                return code
    return None


def _slipped(scheme, code):
    """The list, each once, of the codes that one slip of one of the kinds makes of the code."""
    digits = range(scheme[0])
    changed = [put_in(code, at, (digit,)) for at in range(len(code)) for digit in digits if digit != code[at]]
    return changed + _exchanged(code)


def _exchanged(code):
    """The list, each once, of the codes that exchanging two unlike neighbours makes of the code."""
    pairs = [(at, code[at], code[at + 1]) for at in range(len(code) - 1)]
    return [put_in(code, at, (other, digit)) for at, digit, other in pairs if digit != other]


def _blind_slips(scheme, kind):
    """The list of all (place, digits, others), others greater, for which right codes stay right.

    If they have the digits from this place on, they have the others there behind the slip of this kind.
    """
    base, modulus, weights, _ = scheme
    pairs = [(digit, other) for digit in range(base) for other in range(digit + 1, base)]
    slips = []
    for at, weight in enumerate(weights if kind == "digit" else weights[1:]):
        for digit, other in pairs:
            if kind == "digit":
                digits, others, change = (digit,), (other,), weight * (other - digit)
            else:
                digits, others, change = (digit, other), (other, digit), (weight - weights[at]) * (digit - other)
            if change % modulus == 0:
                slips.append((at, digits, others))
    return slips


def _changes_along(scheme, code):
    """For each place, and behind the last one, the list of how few digits of the code change from there on.

    The list tells it by what the weights times the changed digits from there on leave.
    """
    base, modulus, weights, _ = scheme
    changes = [0] + [TOO_MANY_CHANGES] * (modulus - 1)
    along = [changes]
    for at in reversed(range(len(weights))):
        steps = [(int(digit != code[at]), weights[at] * digit) for digit in range(base)]
        changes = [min([more + changes[(left - step) % modulus] for more, step in steps]) for left in range(modulus)]
        along.append(changes)
    return along[::-1]


def _least_change(scheme, code, along):
    """The least right code with as few changes as any, where along is what _changes_along has told of the code."""
    base, modulus, weights, left = scheme
    least = []
    for at, weight in enumerate(weights):
        for digit in range(base):
            behind = (left - weight * digit) % modulus
            if int(digit != code[at]) + along[at + 1][behind] == along[at][left]:
                break
        least.append(digit)
        left = behind
    return tuple(least)


def _need_kind(thing):
    if not is_word(thing, KINDS):
        raise BadKind("a kind of slip is 'digit' or 'swap'")


def _need_register(scheme, thing):
    if not (
        isinstance(thing, tuple)
        and len(thing) <= MOST_CODES
        and all([has_digits(scheme, code) and leaves_rest(scheme, code) for code in thing])
        and is_rising(thing)
    ):
        raise BadRegister(f"a register is a tuple of at most {MOST_CODES} right codes, ascending, without duplicates")
