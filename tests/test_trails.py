import itertools
import random
import unittest

from copy_samples import (
    all_contents,
    all_deeds,
    is_trail_by_hand,
    lists_by_hand,
    papers_by_hand,
    some_script,
    some_scripts,
    sources_of,
)
from samples import OTHERS, Odd

from officepapers.copies import trail, trail_holds


def all_places(script):
    """All tuples of places of the script, ascending."""
    return [places for many in range(len(script) + 1) for places in itertools.combinations(range(len(script)), many)]


class Trails(unittest.TestCase):
    def assert_as_by_hand(self, size, script, path):
        """Try all first contents and all tuples of places for each folder and source."""
        lists = lists_by_hand(size, script, path)
        for source in sources_of(size, script, path):
            for folder in range(size):
                found = [
                    (contents, places)
                    for contents in all_contents(size)
                    for places in all_places(script)
                    if is_trail_by_hand(size, script, path, folder, source, contents, places)
                ]
                told = trail(size, script, path, folder, source)
                self.assertEqual(told is None, source not in lists[folder])
                if told is None:
                    self.assertEqual(found, [])
                else:
                    self.assertIs(type(told), tuple)
                    self.assertIn(told, found)
                    self.assertEqual(len(told[1]), min(len(places) for _, places in found))
                for contents in all_contents(size):
                    for places in all_places(script):
                        holds = trail_holds(size, script, path, folder, source, contents, places)
                        self.assertIs(holds, (contents, places) in found, (script, path, folder, source, contents, places))

    def test_against_all_first_contents_and_all_places(self):
        for size, script, path in some_scripts(60, 71, most=5, sizes=(1, 2, 2, 3, 3)):
            self.assert_as_by_hand(size, script, path)

    def test_all_scripts_of_two_deeds(self):
        deeds = [deed for deed in all_deeds(2) if deed[0] in ("over", "under") or deed[2] < 2]
        for script in itertools.product(deeds, repeat=2):
            self.assert_as_by_hand(2, script, 0)

    def test_scripts_of_copies_back_and_forth(self):
        chance = random.Random(72)
        copies = [deed for deed in all_deeds(2) if deed[0] in ("over", "under")]
        for _ in range(25):
            script = [chance.choice(copies) for _ in range(5)]
            script.insert(chance.randrange(6), chance.choice([("write", 0, 0), ("throw", 0, 0), ("throw", 1, 0)]))
            self.assert_as_by_hand(2, tuple(script), 0)

    def test_scripts_of_overs_and_throwings(self):
        chance = random.Random(74)
        overs = [deed for deed in all_deeds(3) if deed[0] == "over"]
        for _ in range(12):
            script = [chance.choice(overs) for _ in range(4)]
            script[chance.randrange(1, 4)] = ("throw", chance.randrange(3), 0)
            self.assert_as_by_hand(3, (*script, chance.choice(overs)), 0)

    def test_long_scripts(self):
        chance = random.Random(73)
        for size in range(1, 7):
            for length in (20, 30, 30):
                script = some_script(chance, size, length, 1)
                lists = lists_by_hand(size, script, 1)
                for source in sources_of(size, script, 1):
                    for folder in range(size):
                        told = trail(size, script, 1, folder, source)
                        self.assertEqual(told is None, source not in lists[folder])
                        if told is not None:
                            contents, places = told
                            self.assertEqual(papers_by_hand(size, script, 1, contents)[folder], source)
                            self.assertTrue(is_trail_by_hand(size, script, 1, folder, source, contents, places))
                            self.assertIs(trail_holds(size, script, 1, folder, source, contents, places), True)
                            self.assertEqual(len(places), fewest_copies(size, script, 1, folder, source))

    def test_the_empty_trail(self):
        self.assertEqual(trail(2, (), 0, 1, ("first", 1)), ((1,), ()))
        self.assertIsNone(trail(2, (), 0, 0, ("first", 1)))
        self.assertIs(trail_holds(2, (), 0, 1, ("first", 1), (0, 1), ()), True)
        self.assertIs(trail_holds(2, (), 0, 1, ("first", 1), (0,), ()), False)
        self.assertIs(trail_holds(2, (), 0, 0, ("first", 1), (0, 1), ()), False)
        script = (("write", 0, 0), ("over", 0, 1))
        self.assertEqual(trail(2, script, 0, 0, ("written", 0))[1], ())
        self.assertIs(trail_holds(2, script, 0, 0, ("written", 0), (), ()), True)
        self.assertIs(trail_holds(2, script, 0, 1, ("written", 0), (), ()), False)
        self.assertIs(trail_holds(2, script, 0, 1, ("written", 0), (), (1,)), True)
        # The paper that stood there at first is gone, be there a paper again or not.
        self.assertIs(trail_holds(2, script, 0, 0, ("first", 0), (0,), ()), False)

    def test_an_under_onto_a_paper_copies_none(self):
        script = (("over", 0, 1), ("under", 0, 1))
        self.assertIs(trail_holds(2, script, 0, 1, ("first", 0), (0,), (0,)), True)
        self.assertIs(trail_holds(2, script, 0, 1, ("first", 0), (0,), (1,)), False)
        self.assertIs(trail_holds(2, (("under", 0, 1),), 0, 1, ("first", 0), (0,), (0,)), True)
        self.assertIs(trail_holds(2, (("under", 0, 1),), 0, 1, ("first", 0), (0, 1), (0,)), False)

    def test_an_over_onto_the_same_paper_copies_and_it_has_stood_on(self):
        script = (("over", 0, 1), ("over", 0, 1), ("over", 1, 0))
        for places, folder, wanted in [
            ((0,), 1, True),
            ((1,), 1, True),
            ((0, 1), 1, False),
            ((), 0, True),
            ((0, 2), 0, True),
            ((1, 2), 0, True),
            ((2,), 0, False),
            ((0, 1, 2), 0, False),
        ]:
            self.assertIs(trail_holds(2, script, 0, folder, ("first", 0), (0,), places), wanted, (places, folder))

    def test_a_paper_that_comes_back_has_not_stood_on(self):
        script = (("over", 0, 1), ("throw", 0, 0), ("over", 1, 0), ("over", 0, 2))
        self.assertEqual(trail(3, script, 0, 2, ("first", 0)), ((0,), (0, 2, 3)))
        self.assertIs(trail_holds(3, script, 0, 2, ("first", 0), (0,), (3,)), False)
        self.assertIs(trail_holds(3, script, 0, 2, ("first", 0), (0,), (0, 2, 3)), True)

    def test_a_copy_from_where_the_paper_has_gone_is_in_no_trail(self):
        script = (("over", 0, 1), ("throw", 0, 0), ("over", 0, 1))
        self.assertIs(trail_holds(2, script, 0, 1, ("first", 0), (0,), (0,)), True)
        self.assertIs(trail_holds(2, script, 0, 1, ("first", 0), (0,), (2,)), False)
        script = (("over", 0, 2), ("over", 2, 1), ("throw", 0, 0), ("over", 0, 1))
        self.assertEqual(trail(3, script, 0, 1, ("first", 0)), ((0,), (0, 1)))
        self.assertIs(trail_holds(3, script, 0, 1, ("first", 0), (0,), (3,)), False)

    def test_places_out_of_order_are_no_trail(self):
        script = (("over", 1, 0), ("over", 0, 1))
        self.assertIs(trail_holds(2, script, 0, 0, ("first", 0), (0,), ()), True)
        self.assertIs(trail_holds(2, script, 0, 1, ("first", 0), (0,), (1,)), True)
        self.assertIs(trail_holds(2, script, 0, 0, ("first", 0), (0,), (1, 0)), False)

    def test_as_few_copies_as_any(self):
        script = (("over", 0, 1), ("over", 1, 2), ("under", 0, 2), ("over", 0, 3), ("over", 3, 2))
        self.assertEqual(len(trail(4, script, 0, 2, ("first", 0))[1]), 2)
        self.assertEqual(trail(4, script + (("over", 0, 2),), 0, 2, ("first", 0))[1], (5,))
        # With first papers in the other folders the short way is barred.
        script = (("under", 0, 1), ("under", 1, 2), ("under", 0, 2))
        self.assertEqual(len(trail(3, script[:2], 0, 2, ("first", 0))[1]), 2)
        self.assertEqual(len(trail(3, script, 0, 2, ("first", 0))[1]), 2)
        self.assertEqual(trail(3, script[::2], 0, 2, ("first", 0)), ((0,), (1,)))

    def test_copies_ahead_of_the_writing_are_none(self):
        script = (("over", 0, 1), ("write", 0, 0), ("over", 0, 1))
        self.assertEqual(trail(2, script, 0, 1, ("written", 1))[1], (2,))
        for places in [(0,), (0, 2), (1, 2), (1,), ()]:
            self.assertIs(trail_holds(2, script, 0, 1, ("written", 1), (0,), places), False)

    def test_things_that_are_no_tuple_of_places(self):
        script = (("over", 0, 1), ("over", 1, 2), ("over", 2, 0))

        def holds(thing):
            return trail_holds(3, script, 0, 2, ("first", 0), (0, 1), thing)

        self.assertIs(holds((0, 1)), True)
        for thing in [
            [0, 1],
            (1, 0),
            (0, 0, 1),
            (0, 1, 1),
            (False, 1),
            (0, True),
            ("0", 1),
            (0, 1, 3),
            (0, 1, -1),
            (-3, -2),
            (0, None),
            (0, (1,)),
            (Odd(), Odd()),
            (0, 1, 10 ** 59),
            range(2),
            "01",
            1,
            *OTHERS,
        ]:
            self.assertIs(holds(thing), False, thing)

    def test_deeds_that_are_no_copies_are_in_no_trail(self):
        script = (("write", 0, 0), ("throw", 1, 0), ("write", 1, 1), ("over", 0, 1))
        self.assertIs(trail_holds(2, script, 0, 1, ("written", 0), (), (3,)), True)
        for places in [(0, 3), (1, 3), (2, 3), (1,), (2,)]:
            self.assertIs(trail_holds(2, script, 0, 1, ("written", 0), (), places), False)
        # Its path is 1, the number of a folder.
        self.assertIs(trail_holds(2, (("throw", 0, 1),), 0, 1, ("first", 0), (0,), (0,)), False)
        self.assertIs(trail_holds(2, (("write", 0, 1),), 0, 1, ("first", 0), (0,), (0,)), False)


def fewest_copies(size, script, path, folder, source):
    """The least count of copies of any trail, for all first contents, told by how far each folder is."""
    best = None
    for contents in all_contents(size):
        standing = [papers_by_hand(size, script[:many], path, contents) for many in range(len(script) + 1)]
        here, since = (source[1], 0) if source[0] == "first" else (script[source[1]][1], source[1] + 1)
        counts = {here: 0} if standing[since][here] == source else {}
        for place in range(since, len(script)):
            word, copied, target = script[place]
            behind = {at: many for at, many in counts.items() if standing[place + 1][at] == source}
            if word == "over" or (word == "under" and standing[place][target] is None):
                if copied in counts:
                    behind[target] = min(behind.get(target, 99), counts[copied] + 1)
            counts = behind
        if folder in counts and (best is None or counts[folder] < best):
            best = counts[folder]
    return best


if __name__ == "__main__":
    unittest.main()
