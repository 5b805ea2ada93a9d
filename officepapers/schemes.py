"""Schemes: codes with check digits, counted and numbered without going through them."""

from officepapers.checks import is_whole, need_number
from officepapers.errors import BadCode, BadGap, BadScheme, NotRight


def is_scheme(thing):
    """Whether any object is a scheme."""
    return (
        isinstance(thing, tuple)
        and len(thing) == 4
        and is_whole(thing[0], 2, 10)
        and is_whole(thing[1], 2, 30)
        and _is_weights(thing[2], thing[1])
        and is_whole(thing[3], 0, thing[1] - 1)
    )


def is_code(scheme, thing):
    """Whether any object is a code of the scheme, right or not."""
    need_scheme(scheme)
    return has_digits(scheme, thing)


def is_right(scheme, code):
    """Whether the code is right."""
    need_scheme(scheme)
    need_code(scheme, code)
    return leaves_rest(scheme, code)


def count_right(scheme):
    """How many right codes there are."""
    need_scheme(scheme)
    return count_in(scheme, open_gap(scheme))


def nth_right(scheme, number):
    """The right code with this number, from 0, ascending."""
    need_scheme(scheme)
    return _numbered(scheme, open_gap(scheme), number)


def number_of(scheme, code):
    """The number of the right code."""
    need_scheme(scheme)
    need_code(scheme, code)
    if not leaves_rest(scheme, code):
        raise NotRight("the code is not right")
    return _count_less(scheme, code)


def next_right(scheme, code):
    """The least right code that is greater than the code, right or not; None if there is none."""
    need_scheme(scheme)
    need_code(scheme, code)
    gap = open_gap(scheme)
    number = _count_less(scheme, code)
    if leaves_rest(scheme, code):
        number += 1
    return nth_in(scheme, gap, number) if number < count_in(scheme, gap) else None


def count_below(scheme, code):
    """How many right codes are less than the code, right or not."""
    need_scheme(scheme)
    need_code(scheme, code)
    return _count_less(scheme, code)


def count_fills(scheme, gap):
    """How many right codes have the digits of the gap at their places."""
    need_scheme(scheme)
    _need_gap(scheme, gap)
    return count_in(scheme, gap)


def nth_fill(scheme, gap, number):
    """The code with this number, from 0, ascending, among the right ones that have the digits of the gap."""
    need_scheme(scheme)
    _need_gap(scheme, gap)
    return _numbered(scheme, gap, number)


def sure_digits(scheme, gap):
    """The tuple, for each place, of the digit that all right codes with the digits of the gap have there, or None."""
    need_scheme(scheme)
    _need_gap(scheme, gap)
    if count_in(scheme, gap) == 0:
        raise NotRight("no right code has the digits of the gap")
    sure = []
    for at in range(len(gap)):
        found = [digit for digit in _digits_at(scheme, gap[at]) if count_in(scheme, put_in(gap, at, (digit,))) > 0]
        sure.append(found[0] if len(found) == 1 else None)
    return tuple(sure)


def need_scheme(thing):
    if not is_scheme(thing):
        raise BadScheme("a scheme is a tuple of a base, a modulus, weights and a rest")


def need_code(scheme, thing):
    if not has_digits(scheme, thing):
        raise BadCode("a code is a tuple of as many digits as the scheme has weights")


def has_digits(scheme, thing):
    """As is_code, for a scheme that is known to be one."""
    return _is_row(scheme, thing) and all([_is_digit(scheme, digit) for digit in thing])


def leaves_rest(scheme, code):
    """As is_right, for a scheme and a code that are known to be such."""
    _, modulus, weights, rest = scheme
    return sum([weight * digit for weight, digit in zip(weights, code)]) % modulus == rest


def open_gap(scheme):
    """The gap that has no digit."""
    return (None,) * len(scheme[2])


def put_in(row, at, digits):
    """The row, a code or a gap, with the digits from this place on."""
    return row[:at] + digits + row[at + len(digits):]


def count_in(scheme, gap):
    """As count_fills, for a scheme and a gap that are known to be such."""
    return ways_along(scheme, gap)[0][scheme[3]]


def ways_along(scheme, gap):
    """For each place, and behind the last one, the list of how many ways there are to fill the gap from there on.

    The list tells it by what the weights times the digits from there on leave.
    """
    _, modulus, weights, _ = scheme
    ways = [1] + [0] * (modulus - 1)
    along = [ways]
    for at in reversed(range(len(weights))):
        steps = [weights[at] * digit for digit in _digits_at(scheme, gap[at])]
        ways = [sum([ways[(left - step) % modulus] for step in steps]) for left in range(modulus)]
        along.append(ways)
    return along[::-1]


def nth_in(scheme, gap, number):
    """As nth_fill, for a scheme, a gap and a number that are known to be such."""
    _, modulus, weights, left = scheme
    along = ways_along(scheme, gap)
    code = []
    for at, weight in enumerate(weights):
        for digit in _digits_at(scheme, gap[at]):
            behind = (left - weight * digit) % modulus
            if number < along[at + 1][behind]:
                break
            number -= along[at + 1][behind]
        code.append(digit)
        left = behind
    return tuple(code)


def _numbered(scheme, gap, number):
    need_number(number, count_in(scheme, gap) - 1)
    return nth_in(scheme, gap, number)


def _count_less(scheme, code):
    """As count_below, for a scheme and a code that are known to be such."""
    _, modulus, weights, left = scheme
    along = ways_along(scheme, open_gap(scheme))
    below = 0
    for at, weight in enumerate(weights):
        below += sum([along[at + 1][(left - weight * digit) % modulus] for digit in range(code[at])])
        left = (left - weight * code[at]) % modulus
    return below


def _digits_at(scheme, entry):
    """The list of the digits that this entry of a gap lets stand at its place."""
    return list(range(scheme[0])) if entry is None else [entry]


def _need_gap(scheme, thing):
    if not (_is_row(scheme, thing) and all([entry is None or _is_digit(scheme, entry) for entry in thing])):
        raise BadGap("a gap is a tuple of as many digits and None as the scheme has weights")


def _is_row(scheme, thing):
    return isinstance(thing, tuple) and len(thing) == len(scheme[2])


def _is_digit(scheme, thing):
    return is_whole(thing, 0, scheme[0] - 1)


def _is_weights(thing, modulus):
    return (
        isinstance(thing, tuple)
        and 2 <= len(thing) <= 6
        and all([is_whole(weight, 0, modulus - 1) for weight in thing])
    )
