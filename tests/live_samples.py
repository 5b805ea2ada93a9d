"""What the tests of the live office share: an office by hand, which does all that was done anew for each question."""

import random

from copy_samples import all_deeds
from house_samples import all_right_deeds
from plan_samples import BOOK, all_looks, lists_after, sees_after, state_by_hand
from samples import move_by_hand
from sight_samples import some_open_house

SCHEME = (10, 11, (4, 3, 2, 1), 0)
HOUSE = (3, (0, 1, 0), (False, False, True, False), ((0, ("p", 1), "allow"), (2, ("g", 0), "allow")), ((0, ("p", 0)),))
OFFICE = (HOUSE, ("near", "keeps", "now", True), BOOK)


class ByHand:
    """A live office that keeps nothing but what was asked of it, and answers by the words of the document."""

    def __init__(self, office, day):
        self.office = office
        self.start = day
        self.asked = []

    def steps(self, asked=None):
        """The tuple of the deeds and looks among what was asked, as a plan whose steps are done as they stand."""
        asked = self.asked if asked is None else asked
        return tuple((thing, ()) for word, thing in asked if word != "wait")

    def numbers(self):
        return tuple(range(len(self.steps())))

    def day(self, asked=None):
        asked = self.asked if asked is None else asked
        letters = [letter for word, thing in asked if word == "wait" for letter in thing]
        return move_by_hand(self.office[2], letters, self.start)

    def found(self, person, folder, path, many):
        """What a look finds behind so many deeds and looks."""
        ahead = tuple(range(many))
        if not sees_after(self.office, self.steps(), ahead, person, folder):
            return None
        return lists_after(self.office, self.steps(), ahead, path)[folder]

    def log(self):
        told = []
        for at, (word, thing) in enumerate(self.asked):
            day = self.day(self.asked[:at])
            if word == "wait":
                told.append(("wait", thing))
            elif word == "do":
                told.append(("do", thing, day))
            else:
                many = len(self.steps(self.asked[:at]))
                told.append((*thing, self.found(*thing[1:], many), day))
        return told

    def lists(self, path):
        return lists_after(self.office, self.steps(), self.numbers(), path)

    def state(self):
        return state_by_hand(self.office, self.steps(), self.numbers())

    def sees(self, person, folder):
        return sees_after(self.office, self.steps(), self.numbers(), person, folder)

    def seen(self, person, path):
        told = []
        for many in range(len(self.steps()) + 1):
            for folder in range(len(self.office[0][2])):
                told += [(source, many, folder) for source in self.found(person, folder, path, many) or ()]
        return sorted(told)

    def plan(self):
        """The plan, as long as it may be, with the letters waited ahead of each step."""
        told, letters = [], []
        for word, thing in self.asked:
            if word == "wait":
                for letter in thing:
                    if letter == "+" or letters[-1:] != [letter]:
                        letters.append(letter)
            else:
                told.append((thing, tuple(letters)))
        return tuple(told)


def some_work(chance, office, count):
    """A list of tuples of "wait", "do" or "look" and the letters, the deed or the look."""
    house, _, book = office
    people, size = house[0], len(house[2])
    letters = [name for name, _ in book] + ["+"]
    copies = [deed for deed in all_deeds(size) if deed[0] in ("over", "under")]
    changes = [deed for deed in all_deeds(size) if deed[0] in ("write", "throw") and deed[2] < 2]
    looks = [look for look in all_looks(people, size) if look[3] < 2]
    rights = all_right_deeds(people, size)
    work = []
    for _ in range(count):
        kind = chance.choice(["wait", "do", "do", "do", "look"])
        if kind == "wait":
            work.append((kind, tuple(chance.choice(letters) for _ in range(chance.choice([0, 1, 1, 2, 3])))))
        elif kind == "do":
            work.append((kind, chance.choice(chance.choice([copies or changes, changes, rights]))))
        else:
            work.append((kind, chance.choice(looks)))
    return work


def some_works(count, seed, most, sizes=(1, 2, 3)):
    """Tuples of an office and a list of what is asked of it."""
    chance = random.Random(seed)
    told = []
    for _ in range(count):
        house = some_open_house(chance, chance.randint(1, 3), chance.choice(sizes))
        mode = (chance.choice(["bar", "near"]), "keeps", chance.choice(["now", "login"]), True)
        office = (house, mode, chance.choice([BOOK, BOOK[:1], ()]))
        told.append((office, some_work(chance, office, chance.randint(0, most))))
    return told


def ask(live, word, thing):
    """Ask the live office for one wait, deed or look."""
    if word == "wait":
        return live.wait(*thing)
    return live.do(thing) if word == "do" else live.look(*thing[1:])


def live_after(kind, office, day, work):
    live = kind(office, day)
    for word, thing in work:
        ask(live, word, thing)
    return live
