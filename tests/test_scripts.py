import itertools
import random
import unittest

from copy_samples import (
    all_contents,
    all_deeds,
    firsts,
    lists_by_hand,
    papers_by_hand,
    some_script,
    some_scripts,
    without_writes,
)

from officepapers.copies import lists_of
from officepapers.errors import BadNumber, BadRow, BadScript
from officepapers.scripts import idle_deeds, least_script, lists_after, same_script, script_for, settling

MOST = 10 ** 15
# It turns five folders round, by way of the sixth one, at the path 0.
ROUND = tuple(
    deed
    for source, target in [(0, 5), (1, 0), (2, 1), (3, 2), (4, 3), (5, 4)]
    for deed in (("throw", target, 0), ("over", source, target))
)
LONG_PERIOD = (
    ("over", 0, 2), ("over", 3, 0), ("over", 5, 3), ("throw", 5, 1), ("over", 1, 5), ("throw", 0, 3), ("throw", 1, 3),
    ("throw", 5, 3), ("over", 4, 1), ("under", 1, 0), ("over", 0, 4), ("under", 2, 5), ("throw", 2, 3), ("under", 0, 3),
    ("throw", 1, 1), ("throw", 0, 3), ("throw", 3, 2),
)
LATE = (
    ("under", 4, 0), ("over", 3, 4), ("over", 5, 3), ("over", 2, 5), ("throw", 4, 1), ("under", 0, 5), ("throw", 4, 2),
    ("over", 1, 2), ("over", 3, 1), ("under", 0, 2), ("over", 0, 1), ("throw", 1, 0), ("throw", 4, 1),
)
TURNING = [ROUND, LONG_PERIOD, LATE]


def everything(size, script):
    """What stands for all paths and first contents."""
    return [papers_by_hand(size, script, path, told) for path in range(4) for told in all_contents(size)]


def all_lists(size, script):
    return tuple(lists_by_hand(size, script, path) for path in range(4))


def some_scripts_without_writes(count, seed, most=8, sizes=(1, 2, 3, 4)):
    return [(size, without_writes(script), path) for size, script, path in some_scripts(count, seed, most, sizes)]


class SameScript(unittest.TestCase):
    def assert_as_by_hand(self, size, script, other):
        told = same_script(size, script, other)
        if told is None:
            self.assertEqual(everything(size, script), everything(size, other))
            return
        self.assertIs(type(told), tuple)
        path, contents = told
        self.assertIn(path, range(4))
        self.assertIn(contents, all_contents(size))
        unlike = papers_by_hand(size, script, path, contents), papers_by_hand(size, other, path, contents)
        self.assertNotEqual(*unlike)

    def test_against_the_papers(self):
        chance = random.Random(81)
        for size, script, path in some_scripts_without_writes(150, 82):
            other = without_writes(some_script(chance, size, 4, path))
            self.assert_as_by_hand(size, script, other)
            # Two neighbours exchanged, and one deed left out, are often the same.
            for at in range(len(script)):
                exchanged = script[:at] + script[at:at + 2][::-1] + script[at + 2:]
                self.assert_as_by_hand(size, script, exchanged)
                self.assert_as_by_hand(size, script[:at] + script[at + 1:], script)

    def test_all_scripts_of_two_deeds(self):
        deeds = [deed for deed in all_deeds(2) if deed[0] != "write" and (deed[0] != "throw" or deed[2] > 1)]
        for script in itertools.product(deeds, repeat=2):
            for other in itertools.product(deeds, repeat=2):
                self.assert_as_by_hand(2, script, other)

    def test_the_same_lists_in_another_way(self):
        for size, script, other in [
            (2, (), ()),
            (2, (("over", 0, 1),), (("under", 0, 1), ("over", 0, 1))),
            (2, (("throw", 1, 0), ("throw", 0, 0)), (("throw", 0, 0), ("throw", 1, 0))),
            (3, (("over", 0, 1), ("under", 1, 2)), (("under", 0, 2), ("under", 1, 2), ("over", 0, 1))),
            (1, (("throw", 0, 3),), (("throw", 0, 3), ("throw", 0, 3))),
        ]:
            self.assertIsNone(same_script(size, script, other))
            self.assertIsNone(same_script(size, other, script))
            self.assert_as_by_hand(size, script, other)

    def test_lists_of_which_one_goes_on_behind_the_other(self):
        self.assertEqual(same_script(2, (("under", 0, 1),), ())[1], (0,))
        self.assertEqual(same_script(2, (), (("under", 0, 1),))[1], (0,))
        self.assertEqual(same_script(1, (), (("throw", 0, 2),)), (2, (0,)))
        self.assertEqual(same_script(2, (("over", 0, 1),), (("under", 0, 1),)), (0, (0, 1)))

    def test_thirty_deeds(self):
        chance = random.Random(83)
        deeds = [deed for deed in all_deeds(6) if deed[0] != "write"]
        script = tuple(chance.choice(deeds) for _ in range(30))
        self.assertIsNone(same_script(6, script, script))
        self.assert_as_by_hand(6, script, script[::-1])
        for pair in [(script, script + script[:1]), (script + script[:1], script)]:
            with self.assertRaises(BadScript):
                same_script(6, *pair)

    def test_writes(self):
        for script in [(("write", 0, 0),), (("over", 0, 1), ("write", 1, 3), ("throw", 1, 3))]:
            for pair in [(script, ()), ((), script), (script, script)]:
                with self.assertRaises(BadScript):
                    same_script(2, *pair)


class IdleDeeds(unittest.TestCase):
    def assert_as_by_hand(self, size, script):
        idle = idle_deeds(size, script)
        self.assertIs(type(idle), list)
        whole = everything(size, script)
        left_out = [script[:at] + (None,) + script[at + 1:] for at in range(len(script))]
        wanted = [at for at in range(len(script)) if everything(size, left_out[at]) == whole]
        self.assertEqual(idle, wanted, (size, script))

    def test_against_the_papers(self):
        for size, script, _ in some_scripts(150, 84, sizes=(1, 2, 3, 4)):
            self.assert_as_by_hand(size, script)
        chance = random.Random(85)
        for size in (1, 2, 3):
            self.assert_as_by_hand(size, some_script(chance, size, 30))

    def test_written_sources_are_told_as_ahead(self):
        script = (("throw", 1, 0), ("throw", 1, 0), ("write", 0, 0))
        self.assertEqual(idle_deeds(2, script), [0, 1])
        self.assertEqual(idle_deeds(1, (("write", 0, 0), ("write", 0, 0))), [0])
        self.assertEqual(idle_deeds(1, (("write", 0, 0), ("throw", 0, 0))), [0])

    def test_other_paths_count_too(self):
        self.assertEqual(idle_deeds(1, (("write", 0, 0), ("throw", 0, 1), ("throw", 0, 0), ("throw", 0, 3))), [0])

    def test_other_folders_count_too(self):
        self.assertEqual(idle_deeds(3, (("over", 0, 1), ("over", 2, 1), ("over", 2, 1))), [1, 2])

    def test_nothing_idle_and_the_empty_script(self):
        self.assertEqual(idle_deeds(3, (("over", 0, 1), ("over", 1, 2), ("write", 0, 0))), [])
        self.assertEqual(idle_deeds(1, ()), [])
        self.assertEqual(idle_deeds(6, ()), [])


class LeastScript(unittest.TestCase):
    def test_against_leaving_out_the_last_idle_one(self):
        for size, script, _ in some_scripts(100, 86, most=12, sizes=(1, 2, 3, 4, 5, 6)):
            least = least_script(size, script)
            self.assertIs(type(least), tuple)
            while idle_deeds(size, script):
                at = idle_deeds(size, script)[-1]
                script = script[:at] + script[at + 1:]
            self.assertEqual(least, script)

    def test_each_one_idle_alone_but_not_both(self):
        script = (("over", 0, 1), ("over", 0, 1))
        self.assertEqual(idle_deeds(2, script), [0, 1])
        self.assertEqual(least_script(2, script), script[:1])
        script = (("throw", 0, 0), ("throw", 1, 1), ("throw", 0, 0))
        self.assertEqual(idle_deeds(2, script), [0, 2])
        self.assertEqual(least_script(2, script), script[:2])

    def test_one_that_is_idle_only_behind_another_one_is_left_out(self):
        script = (("write", 0, 0), ("over", 0, 1), ("throw", 0, 0), ("throw", 1, 0))
        self.assertEqual(least_script(2, script), (("over", 0, 1), ("throw", 0, 0), ("throw", 1, 0)))
        script = (("write", 0, 0), ("throw", 0, 0), ("write", 0, 0))
        self.assertEqual(idle_deeds(1, script), [0, 1])
        self.assertEqual(least_script(1, script), script[2:])

    def test_thirty_deeds(self):
        chance = random.Random(87)
        for size in (2, 6):
            script = some_script(chance, size, 30)
            least = least_script(size, script)
            self.assertEqual(idle_deeds(size, least), [])
            if all(deed[0] != "write" for deed in script):
                self.assertIsNone(same_script(size, script, least))
        self.assertEqual(least_script(2, (("over", 0, 1),) * 30), (("over", 0, 1),))

    def test_nothing_idle_and_the_empty_script(self):
        script = (("over", 0, 1), ("over", 1, 2), ("write", 0, 0))
        self.assertEqual(least_script(3, script), script)
        self.assertEqual(least_script(1, ()), ())


class ListsAfter(unittest.TestCase):
    def test_against_doing_the_script_so_many_times(self):
        for size, script, path in some_scripts_without_writes(60, 88, most=6, sizes=(1, 2, 3, 4, 5)):
            for times in (0, 1, 2, 3, 5, 8):
                told = lists_after(size, script, path, times)
                self.assertEqual(told, lists_by_hand(size, script * times, path), (size, script, path, times))
                self.assertEqual({type(sources) for sources in (told, *told)}, {tuple})

    def test_turning_folders_round(self):
        for times in range(7):
            lists = lists_after(6, ROUND, 0, times)
            if times > 0:
                self.assertEqual(lists[:5], tuple(firsts((at + times) % 5) for at in range(5)))
            self.assertEqual(lists_after(6, ROUND, 0, 5 * times + 3), lists_after(6, ROUND, 0, 3))
        self.assertEqual(lists_after(6, ROUND, 0, MOST)[:5], tuple(firsts(at) for at in range(5)))
        self.assertEqual(lists_after(6, ROUND, 0, MOST - 4)[:5], tuple(firsts((at + 1) % 5) for at in range(5)))

    def test_far_times_come_again(self):
        for script in TURNING:
            first, period = settling(6, script)
            for times in [MOST, MOST - 1, MOST - 7, 10 ** 9 + 7, 2 ** 40 - 1]:
                near = first + (times - first) % period
                for path in range(4):
                    wanted = lists_by_hand(6, script * near, path) if path == 0 else lists_after(6, script, path, near)
                    self.assertEqual(lists_after(6, script, path, times), wanted)

    def test_no_times_and_most_times(self):
        for size in range(1, 7):
            self.assertEqual(lists_after(size, (("throw", 0, 1),), 1, 0), tuple(firsts(at) for at in range(size)))
            self.assertEqual(lists_after(size, (), 1, MOST), tuple(firsts(at) for at in range(size)))
        self.assertEqual(lists_after(2, (("throw", 0, 1),), 1, MOST), ((), firsts(1)))
        for times in (-1, MOST + 1):
            with self.assertRaises(BadNumber):
                lists_after(2, (), 1, times)

    def test_writes(self):
        with self.assertRaises(BadScript):
            lists_after(1, (("write", 0, 3),), 0, 1)
        with self.assertRaises(BadScript):
            settling(2, (("over", 0, 1), ("write", 0, 3)))


class Settling(unittest.TestCase):
    def assert_as_by_hand(self, size, script, lists=all_lists):
        """Do the script once more until all lists were there ahead."""
        along = []
        now = lists(size, ())
        while now not in along:
            along.append(now)
            now = lists(size, script * len(along))
        first = along.index(now)
        self.assertEqual(settling(size, script), (first, len(along) - first), script)

    def test_against_the_papers(self):
        for size, script, _ in some_scripts_without_writes(60, 89, most=7):
            self.assert_as_by_hand(size, script)

    def test_larger_houses(self):
        def lists(size, script):
            return [lists_after(size, script[:length], path, len(script) // length) for path in range(4)]

        chance = random.Random(90)
        for size in (5, 6):
            deeds = [deed for deed in all_deeds(size) if deed[0] != "write"]
            for length in [12, 20, 30] * 6:
                script = tuple(chance.choice(deeds) for _ in range(length))
                self.assert_as_by_hand(size, script, lists)

    def test_long_periods_and_late_ones(self):
        self.assertEqual(settling(6, LONG_PERIOD), (4, 12))
        self.assertEqual(settling(6, LATE), (8, 3))
        self.assertEqual(settling(6, ROUND)[1], 5)
        self.assert_as_by_hand(6, LATE)

    def test_at_once(self):
        for size in range(1, 7):
            self.assertEqual(settling(size, ()), (0, 1))
            self.assertEqual(settling(size, (("throw", 0, 2),)), (1, 1))
        self.assertEqual(settling(2, (("over", 0, 1),)), (1, 1))
        self.assertEqual(settling(3, (("over", 1, 2), ("over", 0, 1))), (2, 1))
        self.assertIs(type(settling(1, ())), tuple)


class ScriptFor(unittest.TestCase):
    def test_all_rows(self):
        for size in range(1, 6):
            for many in range(1, size + 1):
                for row in itertools.permutations(range(size), many):
                    for folder in range(size):
                        if folder in row:
                            self.assert_script_for(size, folder, row)
        for row in [(5, 4, 3, 2, 1, 0), (2, 5, 0, 1, 3, 4), (0, 1, 2, 3, 4, 5), (3, 5)]:
            for folder in row:
                self.assert_script_for(6, folder, row)

    def assert_script_for(self, size, folder, row):
        script = script_for(size, folder, row)
        self.assertIs(type(script), tuple)
        self.assertEqual(len(script), len(row) - 1)
        self.assertLessEqual({deed[0] for deed in script}, {"over", "under"})
        for path in (0, 3):
            self.assertEqual(lists_of(size, script, path)[folder], firsts(*row), (size, folder, row))

    def test_wrong_rows(self):
        for folder, row in [(0, ()), (0, (1,)), (0, (1, 2)), (1, (1, 1)), (1, (0, 1, 2, 0)), (1, (1, 3)), (1, (-1, 1))]:
            with self.assertRaises(BadRow):
                script_for(3, folder, row)


if __name__ == "__main__":
    unittest.main()
