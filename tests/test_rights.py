import itertools
import random
import unittest

from house_samples import (
    BAD_RIGHT_DEEDS,
    HOUSE,
    MODE,
    MODES,
    SIZE,
    STATE,
    THIRTEEN,
    after_by_hand,
    all_right_deeds,
    all_whos,
    groups_by_hand_of_any,
    house_of,
    sees_by_hand,
    sights_by_hand,
    some_state,
    some_states,
    with_part,
)
from samples import OTHERS

from officepapers.errors import BadDeed
from officepapers.houses import all_sights
from officepapers.rights import after_right, commute, idle_entries, seen_modes, turning_deeds

DROPS = ("bar", "drops", "now", True)
KEEPS = ("bar", "keeps", "now", True)
PLAIN = ((0, 1, 0), (False,) * 4, (), (), ((), (), ()))


def done(state, *deeds, mode=KEEPS):
    for deed in deeds:
        state = after_right(house_of(state), mode, state, deed)
    return state


class AfterRight(unittest.TestCase):
    def test_against_the_words(self):
        chance = random.Random(141)
        for house, state in some_states(150, 142):
            deeds = all_right_deeds(house[0], len(state[1]))
            for deed in chance.sample(deeds, min(len(deeds), 60)):
                mode = chance.choice(MODES)
                told = after_right(house, mode, state, deed)
                self.assertEqual(told, after_by_hand(mode, state, deed), (house, mode, state, deed))
                self.assertIs(type(told), tuple)
                # What comes of it is a state of the house.
                self.assertEqual(all_sights(house, mode, told), sights_by_hand(mode, told))

    def test_all_deeds_in_all_modes(self):
        for mode in MODES:
            for deed in all_right_deeds(3, SIZE):
                self.assertEqual(after_right(HOUSE, mode, STATE, deed), after_by_hand(mode, STATE, deed))

    def test_entries(self):
        state = done(PLAIN, ("allow", 2, ("p", 1)), ("bar", 0, ("g", 2)), ("allow", 2, ("g", 0)))
        wanted = ((0, ("g", 2), "bar"), (2, ("g", 0), "allow"), (2, ("p", 1), "allow"))
        self.assertEqual(state, with_part(PLAIN, 2, wanted))
        self.assertEqual(done(state, ("bar", 2, ("p", 1)))[2], wanted[:2] + ((2, ("p", 1), "bar"),))
        self.assertEqual(done(state, ("allow", 2, ("p", 1))), state)
        self.assertEqual(done(state, ("clear", 2, ("g", 0)))[2], (wanted[0], wanted[2]))
        for deed in [("clear", 1, ("g", 0)), ("clear", 2, ("g", 1)), ("clear", 2, ("p", 0))]:
            self.assertEqual(done(state, deed), state)

    def test_twelve_entries(self):
        state = with_part(STATE, 2, THIRTEEN[:12])
        for folder, who, _ in THIRTEEN[:12]:
            for word in ("allow", "bar"):
                told = after_right(HOUSE, MODE, state, (word, folder, who))[2]
                self.assertEqual(len(told), 12)
                self.assertIn((folder, who, word), told)
            told = after_right(HOUSE, MODE, state, ("clear", folder, who))
            self.assertEqual(len(told[2]), 11)
            self.assertEqual(len(after_right(HOUSE, MODE, told, ("allow", 0, ("g", 2)))[2]), 12)
        for word in ("allow", "bar"):
            for who in all_whos(3):
                if (3, who) not in [entry[:2] for entry in state[2]]:
                    self.assertEqual(after_right(HOUSE, MODE, state, (word, 3, who)), state)

    def test_members(self):
        state = done(PLAIN, ("join", 1, ("g", 0)), ("join", 0, ("p", 2)), ("join", 2, ("g", 1)))
        members = ((0, ("p", 2)), (1, ("g", 0)), (2, ("g", 1)))
        self.assertEqual(state, with_part(PLAIN, 3, members))
        # Joins by which a group would belong to itself, and one that is there.
        for group, other in [(0, 0), (1, 1), (2, 2), (0, 1), (1, 2), (0, 2)]:
            self.assertEqual(done(state, ("join", group, ("g", other))), state)
        self.assertEqual(done(state, ("join", 0, ("p", 2))), state)
        self.assertEqual(done(state, ("join", 2, ("g", 0)))[3], members[:2] + ((2, ("g", 0)), (2, ("g", 1))))
        self.assertEqual(done(state, ("leave", 1, ("g", 0)))[3], (members[0], members[2]))
        self.assertEqual(done(state, ("leave", 1, ("g", 0)), ("join", 0, ("g", 2)))[3][0], (0, ("g", 2)))
        for deed in [("leave", 0, ("g", 1)), ("leave", 2, ("p", 2)), ("leave", 0, ("g", 0))]:
            self.assertEqual(done(state, deed), state)

    def test_moves(self):
        state = with_part(PLAIN, 2, ((1, ("p", 0), "bar"), (2, ("g", 1), "allow"), (2, ("p", 0), "bar")))
        for mode, left in [(KEEPS, state[2]), (DROPS, state[2][:1])]:
            self.assertEqual(done(state, ("move", 2, 3), mode=mode), ((0, 3, 0), state[1], left, (), state[4]))
            # Into the folder in which it lies already.
            self.assertEqual(done(state, ("move", 2, 1), mode=mode), (state[0], state[1], left, (), state[4]))
        told = done(state, ("move", 1, 3), mode=DROPS)
        self.assertEqual(told, ((3, 1, 0), state[1], state[2][1:], (), state[4]))
        for mode in (KEEPS, DROPS):
            # Folder 0, a folder to itself, and into a folder below it.
            for deed in [("move", 0, 0), ("move", 0, 3), ("move", 1, 1), ("move", 2, 2), ("move", 1, 2)]:
                self.assertEqual(done(state, deed, mode=mode), state)
        deep = ((2, 3, 0), state[1], state[2], (), state[4])
        for deed in [("move", 3, 1), ("move", 3, 2), ("move", 2, 1)]:
            self.assertEqual(done(deep, deed, mode=DROPS), deep)

    def test_shut_and_open(self):
        state = done(PLAIN, ("shut", 0), ("shut", 3), ("shut", 3))
        self.assertEqual(state, with_part(PLAIN, 1, (True, False, False, True)))
        self.assertEqual(done(state, ("open", 0), ("open", 1))[1], (False, False, False, True))
        self.assertEqual({type(one) for one in state[1]}, {bool})

    def test_logins(self):
        members = ((0, ("p", 1)), (1, ("g", 0)), (2, ("g", 1)), (2, ("p", 0)))
        state = with_part(with_part(PLAIN, 3, members), 4, ((0,), (), (1,)))
        for mode in MODES:
            deep = mode[3]
            told = done(state, ("login", 1), mode=mode)
            self.assertEqual(told, with_part(state, 4, ((0,), (0, 1, 2) if deep else (0,), (1,))))
            self.assertEqual(done(state, ("login", 0), mode=mode)[4], ((2,), (), (1,)))
            self.assertEqual(done(state, ("login", 2), mode=mode)[4], ((0,), (), ()))
            # Nothing but a login changes them.
            for deed in [("join", 0, ("p", 0)), ("leave", 0, ("p", 1)), ("leave", 1, ("g", 0))]:
                self.assertEqual(done(state, deed, mode=mode)[4], state[4])

    def test_deeds_that_are_none(self):
        for deed in BAD_RIGHT_DEEDS:
            with self.assertRaises(BadDeed, msg=deed):
                after_right(HOUSE, MODE, STATE, deed)
        for people, size in [(1, 1), (2, 3)]:
            state = some_state(random.Random(143), people, size)
            right = all_right_deeds(people, size)
            for deed in all_right_deeds(3, 4):
                if deed not in right:
                    with self.assertRaises(BadDeed, msg=deed):
                        after_right(house_of(state), MODE, state, deed)


class Commute(unittest.TestCase):
    def assert_as_by_hand(self, people, size, mode, deed, other, states):
        """Try both orders in all these states; the kinds of the answers for both orders are the same."""
        house = house_of(states[0])
        told = commute(house, mode, deed, other)
        self.assertEqual(told is None, commute(house, mode, other, deed) is None)
        if told is None:
            for state in states:
                orders = [self.both(mode, state, pair) for pair in [(deed, other), (other, deed)]]
                self.assertEqual(*orders, (mode, state, deed, other))
        else:
            self.assertLessEqual(len(told[2]), 10)
            # It raises BadState if this is no state of such a house.
            self.assertEqual(all_sights(house, mode, told), sights_by_hand(mode, told))
            self.assertNotEqual(self.both(mode, told, (deed, other)), self.both(mode, told, (other, deed)))
        return told

    def both(self, mode, state, deeds):
        for deed in deeds:
            state = after_by_hand(mode, state, deed)
        return state

    def test_against_many_states(self):
        chance = random.Random(144)
        kinds = {}
        for people, size in [(1, 1), (1, 2), (2, 3), (3, 4), (1, 6)]:
            states = [some_state(chance, people, size, 10) for _ in range(40)]
            deeds = all_right_deeds(people, size)
            words = sorted({deed[0] for deed in deeds})
            for pair in itertools.product(words, repeat=2):
                for _ in range(5):
                    deed, other = (chance.choice([one for one in deeds if one[0] == word]) for word in pair)
                    told = self.assert_as_by_hand(people, size, chance.choice(MODES), deed, other, states)
                    kinds.setdefault(tuple(sorted(pair)), set()).add(told is None)
        both = {pair for pair, found in kinds.items() if len(found) == 2}
        self.assertLessEqual({("join", "join"), ("join", "login"), ("move", "move"), ("allow", "clear")}, both)
        self.assertLessEqual({("open", "shut"), ("allow", "move"), ("join", "leave"), ("leave", "login")}, both)

    def test_all_pairs_that_touch_members(self):
        # No chain from one of the three groups to another one has more than two links.
        pairs = [(group, who) for group in range(3) for who in all_whos(1)]
        members = [told for many in range(3) for told in itertools.combinations(pairs, many) if is_acyclic(told)]
        states = [((), (False,), (), told, ((),)) for told in members]
        deeds = [deed for deed in all_right_deeds(1, 1) if deed[0] in ("join", "leave", "login")]
        for deed, other in itertools.combinations_with_replacement(deeds, 2):
            for deep in (True, False) if other[0] == "login" else (True,):
                self.assert_as_by_hand(1, 1, ("bar", "keeps", "login", deep), deed, other, states)

    def test_all_pairs_of_moves(self):
        chance = random.Random(145)
        for size in (2, 3, 4):
            states = [some_state(chance, 1, size, 10) for _ in range(60)]
            moves = list(itertools.product(["move"], range(size), range(size)))
            for deed, other in itertools.combinations_with_replacement(moves, 2):
                for mode in (KEEPS, DROPS):
                    self.assert_as_by_hand(1, size, mode, deed, other, states)

    def test_one_order_each(self):
        house = (2, (0, 0), (False,) * 3, (), ())
        for deed, other, mode, alike in [
            (("allow", 1, ("p", 0)), ("bar", 1, ("p", 0)), KEEPS, False),
            (("allow", 1, ("p", 0)), ("allow", 1, ("p", 0)), KEEPS, True),
            (("allow", 1, ("p", 0)), ("bar", 1, ("g", 0)), KEEPS, True),
            (("allow", 1, ("p", 0)), ("bar", 2, ("p", 0)), KEEPS, True),
            (("clear", 1, ("p", 0)), ("bar", 1, ("p", 0)), KEEPS, False),
            (("move", 1, 2), ("bar", 1, ("p", 0)), KEEPS, True),
            (("move", 1, 2), ("bar", 1, ("p", 0)), DROPS, False),
            (("move", 1, 0), ("bar", 1, ("p", 0)), DROPS, False),
            (("move", 1, 1), ("bar", 1, ("p", 0)), DROPS, True),
            (("move", 0, 1), ("bar", 0, ("p", 0)), DROPS, True),
            (("move", 1, 2), ("clear", 1, ("p", 0)), DROPS, True),
            (("move", 1, 2), ("bar", 2, ("p", 0)), DROPS, True),
            (("move", 1, 2), ("move", 2, 1), KEEPS, False),
            (("move", 1, 2), ("move", 1, 0), KEEPS, False),
            (("move", 1, 2), ("move", 2, 0), KEEPS, False),
            (("move", 1, 0), ("move", 2, 0), KEEPS, True),
            (("move", 1, 0), ("move", 2, 0), DROPS, True),
            (("join", 0, ("g", 1)), ("join", 1, ("g", 0)), KEEPS, False),
            (("join", 0, ("g", 1)), ("join", 1, ("g", 2)), KEEPS, False),
            (("join", 0, ("g", 1)), ("join", 0, ("g", 2)), KEEPS, True),
            (("join", 0, ("g", 1)), ("join", 2, ("g", 1)), KEEPS, True),
            (("join", 0, ("g", 0)), ("leave", 0, ("g", 0)), KEEPS, True),
            (("join", 0, ("g", 1)), ("leave", 1, ("g", 0)), KEEPS, False),
            (("join", 0, ("g", 1)), ("leave", 1, ("g", 2)), KEEPS, False),
            (("join", 0, ("g", 1)), ("leave", 2, ("g", 1)), KEEPS, True),
            (("join", 0, ("p", 0)), ("leave", 0, ("p", 0)), KEEPS, False),
            (("join", 0, ("p", 0)), ("login", 0), KEEPS, False),
            (("join", 0, ("p", 0)), ("login", 1), KEEPS, True),
            (("join", 0, ("g", 1)), ("login", 1), KEEPS, False),
            (("join", 0, ("g", 1)), ("login", 1), ("near", "drops", "login", False), True),
            (("leave", 0, ("g", 1)), ("login", 1), KEEPS, False),
            (("leave", 2, ("p", 1)), ("login", 1), ("near", "drops", "login", False), False),
            (("shut", 1), ("open", 1), KEEPS, False),
            (("shut", 1), ("open", 2), KEEPS, True),
            (("shut", 1), ("move", 1, 2), DROPS, True),
            (("login", 1), ("login", 1), KEEPS, True),
        ]:
            self.assertEqual(commute(house, mode, deed, other) is None, alike, (deed, other, mode))

    def test_the_entries_of_the_house_mean_nothing(self):
        deeds = (("allow", 3, ("g", 2)), ("bar", 3, ("g", 2)))
        state = commute(with_part(HOUSE, 3, THIRTEEN[:12]), MODE, *deeds)
        self.assertLessEqual(len(state[2]), 10)
        self.assertIsNone(commute(with_part(HOUSE, 3, THIRTEEN[:12]), MODE, deeds[0], ("allow", 2, ("g", 2))))


class TurningDeeds(unittest.TestCase):
    def test_against_all_right_deeds(self):
        chance = random.Random(146)
        found = set()
        for house, state in some_states(120, 147):
            person, folder = chance.randrange(house[0]), chance.randrange(len(state[1]))
            mode = chance.choice(MODES)
            now = sees_by_hand(mode, state, person, folder)
            told = turning_deeds(house, mode, state, person, folder)
            self.assertIs(type(told), list)
            wanted = [
                deed for deed in all_right_deeds(house[0], len(state[1]))
                if sees_by_hand(mode, after_by_hand(mode, state, deed), person, folder) != now
            ]
            self.assertEqual(told, sorted(wanted))
            found |= {deed[0] for deed in told}
        self.assertEqual(len(found), 9)

    def test_a_full_house(self):
        state = with_part(STATE, 2, THIRTEEN[:12])
        for mode in MODES:
            for person, folder in [(0, 0), (1, 2), (2, 3)]:
                now = sees_by_hand(mode, state, person, folder)
                wanted = [
                    deed for deed in all_right_deeds(3, SIZE)
                    if sees_by_hand(mode, after_by_hand(mode, state, deed), person, folder) != now
                ]
                self.assertEqual(turning_deeds(HOUSE, mode, state, person, folder), sorted(wanted))


class IdleEntries(unittest.TestCase):
    def test_against_each_entry_taken_out(self):
        chance = random.Random(148)
        counts = set()
        for house, state in some_states(150, 149):
            mode = chance.choice(MODES)
            told = idle_entries(house, mode, state)
            self.assertIs(type(told), list)
            now = sights_by_hand(mode, state)
            wanted = [
                entry for at, entry in enumerate(state[2])
                if sights_by_hand(mode, with_part(state, 2, state[2][:at] + state[2][at + 1:])) == now
            ]
            self.assertEqual(told, wanted)
            counts.add((len(told) == 0, len(told) == len(state[2])))
        self.assertGreaterEqual(len(counts), 3)

    def test_each_one_idle_alone_but_not_both(self):
        entries = ((0, ("g", 0), "bar"), (0, ("p", 0), "bar"), (1, ("p", 0), "allow"))
        state = ((0,), (False, False), entries, ((0, ("p", 0)),), ((),))
        self.assertEqual(idle_entries(house_of(state), KEEPS, state), list(entries))
        state = with_part(state, 2, entries[1:])
        self.assertEqual(idle_entries(house_of(state), KEEPS, state), [entries[2]])
        state = with_part(state, 2, entries[2:])
        self.assertEqual(idle_entries(house_of(state), KEEPS, state), [])
        self.assertEqual(idle_entries(house_of(PLAIN), KEEPS, PLAIN), [])


class SeenModes(unittest.TestCase):
    def test_against_all_modes(self):
        counts = set()
        for house, state in some_states(150, 150):
            for person in range(house[0]):
                for folder in range(len(state[1])):
                    told = seen_modes(house, state, person, folder)
                    self.assertIs(type(told), list)
                    self.assertEqual(told, [mode for mode in MODES if sees_by_hand(mode, state, person, folder)])
                    counts.add(len(told))
        self.assertGreater(len(counts), 4)

    def test_the_logins_as_they_stand(self):
        members = ((0, ("p", 0)), (1, ("g", 0)))
        state = ((), (False,), ((0, ("g", 1), "allow"),), members, ((),))
        self.assertEqual(
            seen_modes(house_of(state), state, 0, 0),
            [(first, moving, "now", True) for first in ("bar", "near") for moving in ("drops", "keeps")],
        )
        state = with_part(state, 4, ((1,),))
        self.assertEqual(len(seen_modes(house_of(state), state, 0, 0)), 12)
        self.assertEqual({type(mode[3]) for mode in seen_modes(house_of(state), state, 0, 0)}, {bool})


class OtherObjects(unittest.TestCase):
    def test_they_are_no_deeds(self):
        for thing in OTHERS:
            for deed in [(thing, 0), (thing, 0, ("p", 0)), ("shut", thing), ("move", 1, thing), ("allow", 0, thing)]:
                with self.assertRaises(BadDeed):
                    after_right(HOUSE, MODE, STATE, deed)
                with self.assertRaises(BadDeed):
                    commute(HOUSE, MODE, deed, ("shut", 0))
                with self.assertRaises(BadDeed):
                    commute(HOUSE, MODE, ("shut", 0), deed)


def is_acyclic(members):
    return not any(group in groups_by_hand_of_any(set(members), group) for group in range(3))


if __name__ == "__main__":
    unittest.main()
