"""What the tests share: right and wrong values, and the document's rules done day by day."""

import random

from officepapers.calendars import TURN

FAR = 10 ** 15


class Odd:
    """An object of a kind that no function expects, equal to everything and without an order."""

    def __eq__(self, other):
        return True

    __hash__ = None


# Objects that stand for nothing: no integer, text, tuple of the right form and so on.
OTHERS = [None, True, False, b"", b"o", "", [], {}, object(), Odd(), Odd, len, range(3), set(), {"a"}, iter(())]

BAD_DAYS = OTHERS + [(), (1,), "1", "o", FAR + 1, -FAR - 1, 10 ** 59, -(10 ** 59)]


def bad_numbers(most):
    return OTHERS + [(), (1,), "1", "o", -1, -FAR, most + 1, 10 ** 59]


CALENDARS = [
    ("o", (), ()),
    ("oo-", (), ()),
    ("-o", ((-3, 4),), ((2, 9),)),
    ("---o", ((-30, 30),), ()),
    ("--o-", ((-30, -30), (30, 30)), ((-30, 30),)),
    ("oo", ((0, 0), (0, 1)), ((-2, 3), (1, 2))),
    ("-oo-", ((-9, -1), (-5, 12)), ((-12, -11), (-12, 14))),
    ("oo--", (), ((-30, -29), (29, 30))),
]

BAD_CALENDARS = OTHERS + [
    5,
    "ooo",
    (),
    ("o",),
    ("o", ()),
    ("o", (), (), ()),
    ["o", (), ()],
    ("", (), ()),
    ("-", (), ()),
    ("----", (), ()),
    ("ooooo", (), ()),
    ("oo--o", (), ()),
    ("ox", (), ()),
    ("O", (), ()),
    ("o ", (), ()),
    ("o+", (), ()),
    (b"o", (), ()),
    (("o",), (), ()),
    (["o"], (), ()),
    (None, (), ()),
    (1, (), ()),
    (Odd(), Odd(), Odd()),
    ("o", [], ()),
    ("o", (), []),
    ("o", None, ()),
    ("o", (), None),
    ("o", "", ()),
    ("o", (), ""),
    ("o", (1, 2), ()),
    ("o", (), (1, 2)),
]

BAD_SPANS = [
    ((1, 2), (3, 4), (5, 6)),
    ((3, 4), (1, 2)),
    ((1, 3), (1, 2)),
    ((1, 2), (1, 2)),
    ((2, 1),),
    ((30, -30),),
    ((-31, 0),),
    ((0, 31),),
    ((31, 31),),
    ((-31, -31),),
    ((1, 2), (4, 3)),
    ((1, 2), (3, 31)),
    ((1, True),),
    ((True, 1),),
    ((False, 1),),
    ((-1, False),),
    ((1, None),),
    ((None, 1),),
    (("1", 2),),
    ((1, "2"),),
    ([1, 2],),
    [(1, 2)],
    ((1,),),
    ((1, 2, 3),),
    ((),),
    ("12",),
    (None,),
    (5,),
    ((1, 2), None),
    ((Odd(), Odd()),),
    (Odd(),),
]

BAD_CALENDARS = (
    BAD_CALENDARS
    + [("o", spans, ()) for spans in BAD_SPANS]
    + [("o", (), spans) for spans in BAD_SPANS]
)

PLAIN = ("o", (), ())

BOOKS = [
    (),
    (("a", ("oo-", (), ())),),
    (("b", CALENDARS[2]), ("z", CALENDARS[3])),
    tuple(zip("acmz", CALENDARS[3:7])),
]

BAD_BOOKS = OTHERS + [
    5,
    "a",
    PLAIN,
    [("a", PLAIN)],
    {"a": PLAIN},
    tuple((name, PLAIN) for name in "abcde"),
    (("b", PLAIN), ("a", PLAIN)),
    (("a", PLAIN), ("a", PLAIN)),
    (("a", PLAIN), ("a", ("oo-", (), ()))),
    (("a", PLAIN), ("c", PLAIN), ("b", PLAIN)),
    (["a", PLAIN],),
    (("a",),),
    (("a", PLAIN, PLAIN),),
    ((PLAIN, "a"),),
    (("", PLAIN),),
    (("ab", PLAIN),),
    (("A", PLAIN),),
    (("+", PLAIN),),
    (("`", PLAIN),),
    (("{", PLAIN),),
    ((b"a", PLAIN),),
    ((None, PLAIN),),
    ((1, PLAIN),),
    ((True, PLAIN),),
    ((("a",), PLAIN),),
    ((["a"], PLAIN),),
    ((Odd(), PLAIN),),
    (Odd(),),
    (None,),
    ("ab",),
    (("a", PLAIN), None),
] + [(("a", calendar),) for calendar in BAD_CALENDARS]

ROUTES = [(), ("+",), ("a",), ("+", "a"), ("z", "+", "+", "b"), ("a",) * 8, ("+",) * 8, tuple("az+az+az")]

BAD_ROUTES = OTHERS + [
    5,
    "a",
    "+",
    "+a",
    ["a"],
    {"a": "+"},
    ("+",) * 9,
    ("a",) * 9,
    ("",),
    ("ab",),
    ("A",),
    ("-",),
    ("++",),
    ("a+",),
    (" ",),
    ("`",),
    ("{",),
    ("a", "."),
    (b"a",),
    (b"+",),
    (None,),
    (1,),
    (True,),
    (("a",),),
    (["a"],),
    ([],),
    ("a", None),
    (Odd(),),
    ("a", "+", Odd()),
]


def opens(calendar, day):
    """Whether the day is open, by the words of the document."""
    pattern, closed, opened = calendar
    if any(first <= day <= last for first, last in closed):
        return False
    if any(first <= day <= last for first, last in opened):
        return True
    return pattern[day % len(pattern)] == "o"


def next_by_hand(calendar, day):
    while not opens(calendar, day):
        day += 1
    return day


def move_by_hand(book, route, day):
    for letter in route:
        if letter == "+":
            day += 1
        else:
            day = next_by_hand(dict(book)[letter], day)
    return day


def count_by_hand(calendar, first, last):
    """How many days are open: day by day near the spans, by whole turns elsewhere."""
    count = 0
    day = first
    while day <= last:
        ahead = last - day if day > 30 else min(last, -31) - day
        turns = ahead // TURN
        if turns > 0:
            count += turns * sum(opens(calendar, day + at) for at in range(TURN))
            day += turns * TURN
        else:
            count += opens(calendar, day)
            day += 1
    return count


def repeat_by_hand(book, route, day, times):
    """The day moved time after time, whole laps at once where only the patterns count."""
    seen = {}
    while times:
        if abs(day) > 30:
            key = (day > 30, day % TURN)
            if key in seen:
                times_then, day_then = seen[key]
                lap, way = times_then - times, day - day_then
                laps = times // lap
                if day < -30 and way:
                    laps = min(laps, (-31 - day) // way)
                if laps > 0:
                    day += laps * way
                    times -= laps * lap
                    seen = {}
                    continue
            seen[key] = (times, day)
        there = move_by_hand(book, route, day)
        if there == day:
            return day
        day = there
        times -= 1
    return day


def some_spans(chance):
    spans = set()
    for _ in range(chance.randrange(3)):
        first = chance.randint(-30, 30)
        spans.add((first, min(30, first + chance.choice([0, 1, 3, 8, 60]))))
    return tuple(sorted(spans))


def some_calendar(chance):
    while True:
        pattern = "".join(chance.choice("o-") for _ in range(chance.randint(1, 4)))
        if "o" in pattern:
            return (pattern, some_spans(chance), some_spans(chance))


def some_calendars(count, seed):
    chance = random.Random(seed)
    return CALENDARS + [some_calendar(chance) for _ in range(count)]


def some_moves(count, seed):
    """Books, each with a route of its names."""
    chance = random.Random(seed)
    moves = [((), ()), ((), ("+", "+")), ((("a", ("oo-", (), ())),), ("+", "a")), ((("a", PLAIN),), ("a",))]
    moves += [((("k", calendar),), route) for calendar in CALENDARS for route in [("k",), ("+", "k"), ("k", "+")]]
    for _ in range(count):
        names = sorted(chance.sample("abcxyz", chance.randint(1, 4)))
        book = tuple((name, some_calendar(chance)) for name in names)
        letters = names + ["+"] * chance.randint(0, 2)
        moves.append((book, tuple(chance.choice(letters) for _ in range(chance.choice([0, 1, 2, 3, 5, 8])))))
    return moves
