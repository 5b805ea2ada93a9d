import itertools
import random
import unittest

from house_samples import (
    HOUSE,
    MODE,
    MODES,
    STATE,
    all_whos,
    counted_groups,
    house_of,
    kinds_by_hand,
    sees_by_hand,
    some_states,
    way_by_hand,
    with_part,
)
from samples import OTHERS, Odd

from officepapers.reasons import reason_for, reason_holds

# Person 0 is in group 0, person 1 in none, person 2 in the groups 0 and 2; 0 is in 1, and 1 is in 2.
MEMBERS = ((0, ("p", 0)), (0, ("p", 2)), (1, ("g", 0)), (2, ("g", 1)), (2, ("p", 2)))
CHAINS = [chain for many in range(5) for chain in itertools.product(range(3), repeat=many)]


def is_chain_by_hand(mode, state, person, who, chain):
    if who == ("p", person) or not chain:
        return who == ("p", person) and not chain
    if who != ("g", chain[-1]):
        return False
    if mode[2] == "login":
        return len(chain) == 1 and chain[0] in state[4][person]
    line = [("p", person)] + [("g", group) for group in chain]
    linked = all((group, line[at]) in state[3] for at, group in enumerate(chain))
    return linked and (mode[3] or len(chain) == 1)


def holds_by_hand(mode, state, person, folder, reason):
    """Whether a reason of the right form holds, by the words of the document."""
    way = way_by_hand(state, folder)
    kinds = [kinds_by_hand(mode, state, person, at) for at in way]
    if reason[0] == "nothing":
        return reason[1:] == (tuple(way), tuple(sorted(counted_groups(mode, state, person)))) and not any(kinds)
    word, at, who, chain = reason
    kind = {"sees": "allow", "barred": "bar"}[word]
    if (at, who, kind) not in state[2] or at not in way or not is_chain_by_hand(mode, state, person, who, chain):
        return False
    if mode[0] == "near" and any(kinds[:way.index(at)]):
        return False
    if word == "barred":
        return True
    bars = [at] if mode[0] == "near" else way
    return not any("bar" in kinds_by_hand(mode, state, person, one) for one in bars)


def all_reasons(people, size, state, person, folder):
    """All there is of the form of reasons, of "nothing" those with parts of the way and of the groups alone."""
    whos = all_whos(people)
    told = list(itertools.product(("sees", "barred"), range(size), whos, CHAINS[:16]))
    way = tuple(way_by_hand(state, folder))
    ways = [way[:many] for many in range(len(way) + 1)] + [way[::-1], way + (0,)]
    groups = [told for many in range(4) for told in itertools.permutations(range(3), many)]
    return told + [("nothing", one, numbers) for one in ways for numbers in groups]


class ReasonFor(unittest.TestCase):
    def test_it_holds_and_tells_whether_one_sees(self):
        words = {}
        for house, state in some_states(150, 161):
            for mode in MODES:
                for person in range(house[0]):
                    for folder in range(len(state[1])):
                        reason = reason_for(house, mode, state, person, folder)
                        self.assertIs(type(reason), tuple)
                        self.assertTrue(holds_by_hand(mode, state, person, folder, reason), (mode, state, reason))
                        self.assertEqual(reason[0] == "sees", sees_by_hand(mode, state, person, folder))
                        counting = [kinds_by_hand(mode, state, person, at) for at in way_by_hand(state, folder)]
                        self.assertEqual(reason[0] == "nothing", not any(counting))
                        words.setdefault(mode, set()).add((reason[0], len(reason[-1])))
        for mode, found in words.items():
            lengths = {0, 1, 2} if mode[2] == "now" and mode[3] else {0, 1}
            self.assertLessEqual({(word, many) for word in ("sees", "barred") for many in lengths}, found)

    def test_it_is_held(self):
        for house, state in some_states(50, 162):
            for mode in MODES:
                for person in range(house[0]):
                    for folder in range(len(state[1])):
                        reason = reason_for(house, mode, state, person, folder)
                        self.assertIs(reason_holds(house, mode, state, person, folder, reason), True)

    def test_chains_of_none_one_two_and_three_groups(self):
        for who, chain in [(("p", 0), ()), (("g", 0), (0,)), (("g", 1), (0, 1)), (("g", 2), (0, 1, 2))]:
            state = ((), (False,), ((0, who, "allow"),), MEMBERS, ((), (), ()))
            self.assertEqual(reason_for(house_of(state), MODE, state, 0, 0), ("sees", 0, who, chain))
            state = ((0,), (False, False), ((0, who, "bar"),), MEMBERS, ((), (), ()))
            self.assertEqual(reason_for(house_of(state), MODE, state, 0, 1), ("barred", 0, who, chain))
            told = reason_for(house_of(state), with_part(MODE, 3, False), state, 0, 1)
            if len(chain) < 2:
                self.assertEqual(told, ("barred", 0, who, chain))
            else:
                self.assertEqual(told, ("nothing", (1, 0), (0,)))

    def test_by_login(self):
        state = ((), (False,), ((0, ("g", 2), "allow"),), MEMBERS, ((), (0, 2), ()))
        mode = with_part(MODE, 2, "login")
        self.assertEqual(reason_for(house_of(state), mode, state, 1, 0), ("sees", 0, ("g", 2), (2,)))
        self.assertEqual(reason_for(house_of(state), mode, state, 0, 0), ("nothing", (0,), ()))

    def test_nothing(self):
        state = ((0, 1), (False, True, False), ((0, ("p", 0), "allow"), (1, ("p", 1), "bar")), MEMBERS, ((), (), (1,)))
        house = house_of(state)
        self.assertEqual(reason_for(house, MODE, state, 0, 2), ("nothing", (2, 1), (0, 1, 2)))
        self.assertEqual(reason_for(house, with_part(MODE, 3, False), state, 2, 2), ("nothing", (2, 1), (0, 2)))
        self.assertEqual(reason_for(house, with_part(MODE, 2, "login"), state, 2, 2), ("nothing", (2, 1), (1,)))


class ReasonHolds(unittest.TestCase):
    def test_against_all_of_the_form(self):
        chance = random.Random(163)
        for house, state in some_states(60, 164):
            mode = chance.choice(MODES)
            person, folder = chance.randrange(house[0]), chance.randrange(len(state[1]))
            told = set()
            for reason in all_reasons(house[0], len(state[1]), state, person, folder):
                holds = reason_holds(house, mode, state, person, folder, reason)
                self.assertIs(holds, holds_by_hand(mode, state, person, folder, reason), (mode, state, reason))
                if holds:
                    told.add(reason[0])
            self.assertEqual(told, {reason_for(house, mode, state, person, folder)[0]})

    def holds(self, reason, person=0, folder=2, **parts):
        """In a house in which folder 2 lies in 1, 1 in 0, and 3 in 0."""
        entries = parts.get("entries", ((0, ("p", 0), "bar"), (1, ("g", 1), "allow"), (2, ("p", 1), "bar")))
        shut = parts.get("shut", (False,) * 4)
        state = ((0, 1, 0), shut, entries, MEMBERS, ((1,), (), (0, 2)))
        mode = (parts.get("first", "near"), "keeps", parts.get("known", "now"), parts.get("deep", True))
        told = reason_holds(house_of(state), mode, state, person, folder, reason)
        self.assertIs(type(told), bool)
        return told

    def test_sees_with_each_rule_broken_alone(self):
        sees = ("sees", 1, ("g", 1), (0, 1))
        self.assertTrue(self.holds(sees))
        for at, parts in enumerate([
            ("barred", "nothing", "", "Sees", b"sees", None, 1, Odd()),
            (0, 2, 3, 4, -1, True, None, "1", (1,), Odd()),
            (("g", 0), ("g", 2), ("p", 0), ("g", 3), ("g", True), ["g", 1], ("G", 1), 1, None, Odd(), ("g", Odd())),
            ((), (1,), (0,), (1, 0), (0, 1, 1), (0, 0, 1), (0, 1, 2), [0, 1], (False, True), (0, True), ("0", 1), Odd(), None),
        ]):
            for part in parts:
                self.assertFalse(self.holds(with_part(sees, at, part)), part)
        for reason in [list(sees), sees[:3], sees + ((),), (sees,), (Odd(), Odd(), Odd(), Odd()), (Odd(),) * 3]:
            self.assertFalse(self.holds(reason))

    def test_sees_by_what_stands_elsewhere(self):
        sees = ("sees", 1, ("g", 1), (0, 1))
        self.assertFalse(self.holds(sees, deep=False))
        self.assertFalse(self.holds(sees, person=1))
        self.assertTrue(self.holds(sees, person=2))
        self.assertFalse(self.holds(sees, folder=3))
        self.assertFalse(self.holds(sees, shut=(False, False, True, False)))
        self.assertTrue(self.holds(sees, shut=(False, True, False, False)))
        # A bar further off, at the folder and nearer.
        self.assertFalse(self.holds(sees, first="bar"))
        self.assertTrue(self.holds(sees, first="bar", shut=(False, True, False, False)))
        for entry in [(1, ("p", 0), "bar"), (1, ("g", 0), "bar"), (2, ("p", 0), "bar"), (2, ("g", 2), "bar")]:
            entries = tuple(sorted([(1, ("g", 1), "allow"), entry]))
            self.assertFalse(self.holds(sees, entries=entries))
            self.assertFalse(self.holds(sees, entries=entries, first="bar"))
        # An allow nearer counts where the nearest one decides.
        entries = ((1, ("g", 1), "allow"), (2, ("p", 0), "allow"))
        self.assertFalse(self.holds(sees, entries=entries))
        self.assertTrue(self.holds(sees, entries=entries, first="bar"))
        self.assertTrue(self.holds(("sees", 2, ("p", 0), ()), entries=entries))
        # Entries of others count for nothing.
        entries = ((0, ("p", 1), "bar"), (1, ("g", 1), "allow"), (1, ("p", 2), "bar"), (2, ("p", 1), "bar"))
        self.assertTrue(self.holds(sees, entries=entries))
        self.assertTrue(self.holds(sees, entries=entries, first="bar"))

    def test_barred_with_each_rule_broken_alone(self):
        barred = ("barred", 0, ("p", 0), ())
        self.assertFalse(self.holds(barred))
        self.assertTrue(self.holds(barred, first="bar"))
        self.assertTrue(self.holds(barred, folder=3))
        self.assertTrue(self.holds(barred, folder=0))
        for at, parts in enumerate([
            ("sees", "nothing", "bar", None, Odd()),
            (1, 2, 3, False, -1, None, Odd()),
            (("p", 1), ("g", 0), ("p", False), ["p", 0], 0, Odd()),
            ((0,), (0, 1), [], None, Odd()),
        ]):
            for part in parts:
                self.assertFalse(self.holds(with_part(barred, at, part), first="bar"), part)
        self.assertFalse(self.holds(barred, first="bar", person=1))
        self.assertFalse(self.holds(barred, first="bar", shut=(False, True, False, False)))
        # Several bars, of which any one decides.
        entries = ((0, ("p", 0), "bar"), (2, ("g", 0), "bar"), (2, ("p", 0), "allow"))
        near = ("barred", 2, ("g", 0), (0,))
        self.assertTrue(self.holds(near, entries=entries))
        self.assertFalse(self.holds(barred, entries=entries))
        self.assertTrue(self.holds(near, entries=entries, first="bar"))
        self.assertTrue(self.holds(barred, entries=entries, first="bar"))
        self.assertFalse(self.holds(("sees", 2, ("p", 0), ()), entries=entries))

    def test_nothing_with_each_rule_broken_alone(self):
        entries = ((0, ("p", 1), "bar"), (3, ("p", 0), "allow"))
        nothing = ("nothing", (2, 1, 0), (0, 1, 2))
        self.assertTrue(self.holds(nothing, entries=entries))
        for at, parts in enumerate([
            ("sees", "barred", "", None, Odd()),
            ((2, 1), (2,), (0, 1, 2), (2, 1, 0, 0), [2, 1, 0], (2, True, False), (2, 1, False), (), None, "210", Odd()),
            ((0, 1), (2, 1, 0), (0, 1, 2, 2), [0, 1, 2], (False, True, 2), (False, 1, 2), (), None, Odd()),
        ]):
            for part in parts:
                self.assertFalse(self.holds(with_part(nothing, at, part), entries=entries), part)
        for reason in [list(nothing), nothing[:2], nothing + ((),), (nothing,), ("nothing", (Odd(),) * 3, (0, 1, 2))]:
            self.assertFalse(self.holds(reason, entries=entries))
        for entry in [(1, ("p", 0), "allow"), (0, ("g", 2), "bar")]:
            self.assertFalse(self.holds(nothing, entries=tuple(sorted(entries + (entry,)))))
        self.assertTrue(self.holds(with_part(nothing, 2, (1,)), entries=entries, known="login"))
        self.assertTrue(self.holds(with_part(nothing, 2, (0,)), entries=entries, deep=False))
        self.assertTrue(self.holds(("nothing", (2,), (0, 1, 2)), entries=entries, shut=(False, False, True, False)))

    def test_by_login(self):
        for who, chain, right in [
            (("g", 1), (1,), True),
            (("g", 1), (0, 1), False),
            (("g", 1), (), False),
            (("g", 0), (0,), False),
            (("p", 0), (), True),
            (("p", 0), (0,), False),
        ]:
            entries = ((0, who, "allow"),)
            for deep in (True, False):
                holds = self.holds(("sees", 0, who, chain), entries=entries, known="login", deep=deep)
                self.assertIs(holds, right, (who, chain))

    def test_chains_by_several_ways(self):
        entries = ((0, ("g", 2), "allow"),)
        for chain, right in [((2,), True), ((0, 1, 2), True), ((0, 2), False), ((1, 2), False), ((0, 1, 2, 2), False)]:
            self.assertIs(self.holds(("sees", 0, ("g", 2), chain), person=2, entries=entries), right)
            self.assertIs(
                self.holds(("sees", 0, ("g", 2), chain), person=2, entries=entries, deep=False), chain == (2,)
            )

    def test_other_objects(self):
        for thing in OTHERS + [5, (), "sees", ("sees",), ("nothing",), (None,) * 3, (None,) * 4, (Odd(),) * 3, (Odd(),) * 4]:
            for mode in MODES:
                self.assertIs(reason_holds(HOUSE, mode, STATE, 0, 2, thing), False)


if __name__ == "__main__":
    unittest.main()
