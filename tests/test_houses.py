import itertools
import random
import unittest

from house_samples import (
    BAD_ENTRIES,
    BAD_HOUSES,
    BAD_LOGINS,
    BAD_MEMBERS,
    BAD_MODES,
    BAD_PARENTS,
    BAD_SHUT,
    BAD_STATES,
    ENTRIES,
    HOUSE,
    MEMBERS,
    MODE,
    MODES,
    PARENTS,
    SHUT,
    STATE,
    THIRTEEN,
    all_trees,
    all_whos,
    ends_at_top,
    groups_by_hand,
    groups_by_hand_of_any,
    house_of,
    sees_by_hand,
    sights_by_hand,
    some_state,
    some_states,
    with_part,
)
from samples import OTHERS

from officepapers.errors import BadState
from officepapers.houses import all_sights, first_state, is_house, is_mode, sees


class Houses(unittest.TestCase):
    def test_right_ones(self):
        self.assertIs(is_house(HOUSE), True)
        self.assertIs(is_house(thing=HOUSE), True)
        for house, _ in some_states(300, 111):
            self.assertIs(is_house(house), True)

    def test_each_rule_broken_alone(self):
        for thing in BAD_HOUSES:
            self.assertIs(is_house(thing), False, thing)

    def test_people(self):
        for people in range(1, 5):
            self.assertIs(is_house((people, (), (True,), (), ())), True)
            for person in range(-1, 6):
                entries = ((0, ("p", person), "bar"),)
                self.assertIs(is_house((people, (), (True,), entries, ())), 0 <= person < people)
                self.assertIs(is_house((people, (), (True,), (), ((1, ("p", person)),))), 0 <= person < people)
        for people in (-1, 0, 5, 6, 10 ** 59):
            self.assertIs(is_house((people, (), (True,), (), ())), False)

    def test_all_parents(self):
        for size in range(1, 5):
            shut = (False,) * size
            for parents in itertools.product(range(-1, size + 1), repeat=size - 1):
                right = min(parents, default=0) >= 0 and max(parents, default=0) < size
                right = right and all(ends_at_top(parents, folder) for folder in range(1, size))
                self.assertIs(is_house((1, parents, shut, (), ())), right, parents)
        for parents in all_trees(6)[::50]:
            self.assertIs(is_house((1, parents, (True,) * 6, (), ())), True)
        self.assertIs(is_house((1, (0,) * 6, (True,) * 7, (), ())), False)

    def test_as_many_shut_as_folders(self):
        for size in range(1, 7):
            for many in range(9):
                for one in (True, False):
                    self.assertIs(is_house((1, (0,) * (size - 1), (one,) * many, (), ())), size == many)

    def test_twelve_entries_and_thirteen(self):
        self.assertIs(is_house((3, PARENTS, SHUT, THIRTEEN[:12], ())), True)
        self.assertIs(is_house((3, PARENTS, SHUT, THIRTEEN[1:], ())), True)
        self.assertIs(is_house((3, PARENTS, SHUT, THIRTEEN, ())), False)

    def test_entries_in_all_orders(self):
        for entries in itertools.permutations(ENTRIES):
            self.assertIs(is_house(with_part(HOUSE, 3, entries)), entries == ENTRIES)
        for members in itertools.permutations(MEMBERS):
            self.assertIs(is_house(with_part(HOUSE, 4, members)), members == MEMBERS)

    def test_all_members_of_groups(self):
        links = [(group, ("g", other)) for group in range(3) for other in range(3)]
        for many in range(5):
            for members in itertools.combinations(links, many):
                right = not any(group in groups_by_hand_of_any(set(members), group) for group in range(3))
                self.assertIs(is_house((1, (), (False,), (), members)), right, members)
        # All persons belong to all groups, and each group to all greater ones.
        whole = tuple((group, who) for group in range(3) for who in all_whos(4) if who not in all_whos(0)[group:])
        self.assertEqual(len(whole), 15)
        self.assertIs(is_house((4, (), (False,), (), whole)), True)

    def test_other_objects(self):
        for thing in OTHERS:
            self.assertIs(is_house(thing), False)
            for at in range(5):
                self.assertIs(is_house(with_part(HOUSE, at, thing)), False)
                self.assertIs(is_house(with_part((1, (), (True,), (), ()), at, thing)), False)


class Modes(unittest.TestCase):
    def test_right_ones(self):
        self.assertEqual(len(set(MODES)), 16)
        for mode in MODES:
            self.assertIs(is_mode(mode), True)
        self.assertIs(is_mode(thing=MODE), True)

    def test_each_word_broken_alone(self):
        for thing in BAD_MODES:
            self.assertIs(is_mode(thing), False, thing)
        words = ["bar", "near", "drops", "keeps", "login", "now", True, False, 0, 1]
        for mode in itertools.product(words, repeat=4):
            right = any([type(one) for one in mode] == [type(one) for one in told] and mode == told for told in MODES)
            self.assertIs(is_mode(mode), right, mode)
        for thing in OTHERS:
            for at in range(3):
                self.assertIs(is_mode(with_part(MODE, at, thing)), False)
            self.assertIs(is_mode(with_part(MODE, 3, thing)), thing is True or thing is False)


class FirstState(unittest.TestCase):
    def test_members_through_groups_and_not(self):
        for deep, logins in [(True, ((), (0, 1, 2), (1,))), (False, ((), (0,), (1,)))]:
            state = first_state(HOUSE, with_part(MODE, 3, deep))
            self.assertEqual(state, (*HOUSE[1:], logins))
            self.assertIs(type(state), tuple)

    def test_against_groups_by_hand(self):
        for house, _ in some_states(200, 112):
            for mode in MODES:
                state = first_state(house, mode)
                self.assertEqual(state[:4], house[1:])
                people = range(house[0])
                groups = [tuple(sorted(groups_by_hand(house[4], ("p", person), mode[3]))) for person in people]
                self.assertEqual(state[4], tuple(groups))

    def test_it_is_a_state(self):
        for house, _ in some_states(50, 113):
            for mode in MODES:
                state = first_state(house, mode)
                self.assertEqual(all_sights(house, mode, state), sights_by_hand(mode, state))


class Sights(unittest.TestCase):
    def test_against_the_words(self):
        for house, state in some_states(250, 114):
            for mode in MODES:
                wanted = sights_by_hand(mode, state)
                self.assertEqual(all_sights(house, mode, state), wanted, (house, mode, state))
        for house, state in some_states(40, 115):
            for mode in MODES:
                for person in range(house[0]):
                    for folder in range(len(state[1])):
                        self.assertIs(
                            sees(house, mode, state, person, folder), sees_by_hand(mode, state, person, folder)
                        )

    def sees(self, state, folder, first="bar", person=0, known="now", deep=True):
        return sees(house_of(state), (first, "keeps", known, deep), state, person, folder)

    def test_near_and_bar_first(self):
        entries = ((0, ("p", 0), "bar"), (1, ("p", 0), "allow"), (3, ("g", 0), "bar"), (3, ("p", 0), "allow"))
        state = ((0, 1, 2), (False,) * 4, entries, ((0, ("p", 0)),), ((),))
        self.assertEqual([self.sees(state, folder, "near") for folder in range(4)], [False, True, True, False])
        self.assertEqual([self.sees(state, folder, "bar") for folder in range(4)], [False] * 4)
        state = with_part(state, 2, entries[1:])
        self.assertEqual([self.sees(state, folder, "near") for folder in range(4)], [False, True, True, False])
        self.assertEqual([self.sees(state, folder, "bar") for folder in range(4)], [False, True, True, False])

    def test_shut_folders_on_the_way(self):
        state = ((0, 1, 2), (False, False, True, False), ((0, ("p", 0), "allow"), (1, ("p", 0), "bar")), (), ((),))
        self.assertEqual([self.sees(state, folder) for folder in range(4)], [True, False, False, False])
        state = with_part(state, 2, ((0, ("p", 0), "bar"), (2, ("p", 0), "allow")))
        for first in ("bar", "near"):
            self.assertEqual([self.sees(state, folder, first) for folder in range(4)], [False, False, True, True])
        # A shut folder takes nothing from above, but gives what it has.
        state = with_part(state, 1, (False, True, False, False))
        self.assertEqual([self.sees(state, folder) for folder in range(4)], [False, False, True, True])
        state = with_part(state, 1, (True, False, False, False))
        self.assertEqual([self.sees(state, folder) for folder in range(4)], [False] * 4)

    def test_without_an_entry_that_counts_nobody_sees(self):
        state = ((0,), (False, False), ((0, ("g", 2), "allow"), (0, ("p", 1), "allow")), (), ((), ()))
        for first in ("bar", "near"):
            self.assertIs(self.sees(state, 1, first), False)
            self.assertIs(self.sees(state, 1, first, person=1), True)

    def test_logins_that_never_came_about(self):
        state = ((), (False,), ((0, ("g", 2), "allow"),), (), ((2,), (0, 1)))
        for mode in MODES:
            wanted = [(0, 0)] if mode[2] == "login" else []
            self.assertEqual(all_sights(house_of(state), mode, state), wanted)

    def test_through_groups_by_deep(self):
        members = ((0, ("p", 0)), (1, ("g", 0)), (2, ("g", 1)))
        state = ((0, 0), (False,) * 3, ((0, ("g", 2), "allow"), (1, ("g", 0), "bar")), members, ((),))
        self.assertEqual([self.sees(state, folder) for folder in range(3)], [True, False, True])
        self.assertEqual([self.sees(state, folder, deep=False) for folder in range(3)], [False] * 3)
        self.assertEqual([self.sees(state, folder, known="login") for folder in range(3)], [False] * 3)

    def test_the_group_of_a_number_is_not_the_person_of_it(self):
        state = ((), (False,), ((0, ("g", 0), "allow"), (0, ("g", 1), "bar")), ((0, ("p", 1)),), ((), ()))
        for mode in MODES:
            if mode[2] == "now":
                self.assertEqual(all_sights(house_of(state), mode, state), [(1, 0)])

    def test_a_new_list_each_time(self):
        told = all_sights(HOUSE, MODE, STATE)
        self.assertIs(type(told), list)
        kept = list(told)
        told.append(None)
        self.assertEqual(all_sights(HOUSE, MODE, STATE), kept)


class States(unittest.TestCase):
    def assert_wrong(self, state, house=HOUSE):
        for call in [lambda: all_sights(house, MODE, state), lambda: sees(house, MODE, state, 0, 0)]:
            with self.assertRaises(BadState, msg=state):
                call()

    def test_each_rule_broken_alone(self):
        for state in BAD_STATES:
            self.assert_wrong(state)

    def test_each_part_broken_alone_in_other_houses(self):
        plain = (PARENTS, SHUT, (), (), ((), (), ()))
        house = house_of(plain)
        self.assertEqual(all_sights(house, MODE, plain), [])
        for at, parts in enumerate([BAD_PARENTS, BAD_SHUT, BAD_ENTRIES, BAD_MEMBERS, BAD_LOGINS]):
            for part in parts:
                self.assert_wrong(with_part(plain, at, part), house)

    def test_of_as_many_people_and_folders(self):
        chance = random.Random(116)
        states = {(people, size): some_state(chance, people, size) for people in range(1, 5) for size in range(1, 7)}
        for one, state in states.items():
            for other in states:
                house = house_of(states[other])
                if one == other:
                    self.assertEqual(all_sights(house, MODE, state), sights_by_hand(MODE, state))
                else:
                    self.assert_wrong(state, house)

    def test_other_parents_members_and_logins_than_those_of_the_house(self):
        state = ((2, 0, 1), (True, False, True, False), (), ((0, ("g", 1)),), ((0, 1, 2), (1,), ()))
        self.assertEqual(all_sights(HOUSE, MODE, state), [])


if __name__ == "__main__":
    unittest.main()
