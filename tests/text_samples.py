"""What the tests of texts and the desk share: texts written by hand, and where a text is not as it has to be."""

import functools

from copy_samples import all_deeds
from house_samples import all_right_deeds
from plan_samples import all_looks

LETTERS = "abcdefghijklmnopqrstuvwxyz+"


def who_text(part):
    return "".join(map(str, part)) if isinstance(part, tuple) else str(part)


def deed_text(deed):
    return " ".join(map(who_text, deed))


def route_text(route):
    return " ".join(route) or "."


def plan_text(plan):
    return " ; ".join(deed_text(deed) + " : " + route_text(route) for deed, route in plan) or "none"


def calendar_text(calendar):
    pattern, closed, opened = calendar
    text = pattern
    for first, last in closed:
        text += " closed %d %d" % (first, last)
    for first, last in opened:
        text += " opened %d %d" % (first, last)
    return text


@functools.cache
def deed_texts(people, size):
    """The dict of all deeds of an office with so many people and folders by the tuples of their words."""
    deeds = all_right_deeds(people, size) + all_deeds(size) + all_looks(people, size)
    return {tuple(deed_text(deed).split(" ")): deed for deed in deeds}


@functools.cache
def deed_starts(people, size):
    return {words[:many] for words in deed_texts(people, size) for many in range(1, len(words) + 1)}


def deed_place(people, size, text):
    """The place at which the text is no deed; None if it is one."""
    words = tuple(text.split(" "))
    for at in range(len(words)):
        if words[:at + 1] not in deed_starts(people, size):
            return at
    return None if words in deed_texts(people, size) else len(words)


def route_place(text, letters=LETTERS):
    """The place at which the text is no route; None if it is one."""
    words = text.split(" ")
    if words == ["."]:
        return None
    if words[0] == ".":
        return 1
    for at, word in enumerate(words):
        if len(word) != 1 or word not in letters or at == 8:
            return at
    return None


def plan_place(people, size, names, text):
    """The place at which the text is no plan; None if it is one."""
    words = text.split(" ")
    if words[0] == "none":
        return None if len(words) == 1 else 1
    at = 0
    for number in range(8):
        deed = ()
        while deed not in deed_texts(people, size):
            if at == len(words) or deed + (words[at],) not in deed_starts(people, size):
                return at
            deed += (words[at],)
            at += 1
        if at == len(words) or words[at] != ":":
            return at
        at += 1
        many = 0
        while at < len(words) and words[at] != ";":
            if words[at] == "." and many == 0:
                many = 99
            elif words[at] in [*names, "+"] and many < 8:
                many += 1
            else:
                return at
            at += 1
        if many == 0:
            return at
        if at == len(words):
            return None
        if number == 7:
            return at
        at += 1


def integer_or_none(word):
    return int(word) if word in [str(number) for number in range(-99, 100)] else None


def calendar_place(text):
    """The place at which the text is no calendar; None if it is one."""
    words = text.split(" ")
    pattern = words[0]
    if not 1 <= len(pattern) <= 4 or set(pattern) - set("o-") or "o" not in pattern:
        return 0
    spans = {"closed": [], "opened": []}
    for at in range(1, len(words), 3):
        kind = words[at]
        if kind not in spans or len(spans[kind]) == 2 or (kind == "closed" and spans["opened"]):
            return at
        if at + 1 == len(words):
            return at + 1
        first = integer_or_none(words[at + 1])
        if first is None or not -30 <= first <= 30:
            return at + 1
        if at + 2 == len(words):
            return at + 2
        last = integer_or_none(words[at + 2])
        if last is None or not first <= last <= 30 or (spans[kind] and not spans[kind][-1] < (first, last)):
            return at + 2
        spans[kind].append((first, last))
    return None


def broken_texts(text, pool):
    """The text with each word put in the place of each one, put in ahead of it, left out and doubled."""
    words = text.split(" ")
    for at in range(len(words) + 1):
        ahead, behind = words[:at], words[at:]
        for word in pool:
            yield " ".join(ahead + [word] + behind)
            yield " ".join(ahead + [word] + behind[1:])
        yield " ".join(ahead + behind[1:])
        yield " ".join(ahead + behind[:1] + behind)
        yield " ".join(ahead)
    for at in range(len(text)):
        yield text[:at] + text[at + 1:]
        yield text[:at] + "\n" + text[at:]
        yield text[:at] + " " + text[at:]
