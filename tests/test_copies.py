import random
import unittest

from copy_samples import (
    BAD_SCRIPTS,
    SCRIPT,
    SIZE,
    all_contents,
    all_deeds,
    firsts,
    lists_by_hand,
    papers_along,
    papers_by_hand,
    sources_of,
    some_script,
    some_scripts,
)
from samples import OTHERS

from officepapers.copies import contents_for, is_script, lists_along, lists_of, papers_at
from officepapers.errors import BadFolder, BadSource


class Scripts(unittest.TestCase):
    def test_each_deed_alone(self):
        for size in range(1, 7):
            deeds = all_deeds(size)
            self.assertEqual(len(deeds), 2 * size * (size - 1) + 8 * size)
            for deed in deeds:
                self.assertIs(is_script(size, (deed,)), True, (size, deed))
            for deed in all_deeds(6):
                self.assertIs(is_script(size, (deed,)), deed in deeds, (size, deed))

    def test_thirty_deeds_and_one_more(self):
        for size in range(1, 7):
            script = some_script(random.Random(61), size, 31)
            self.assertIs(is_script(size, script[:30]), True)
            self.assertIs(is_script(size, script), False)
        self.assertIs(is_script(1, ()), True)
        self.assertIs(is_script(thing=SCRIPT, size=3), True)

    def test_wrong_scripts(self):
        for thing in BAD_SCRIPTS:
            self.assertIs(is_script(SIZE, thing), False, thing)
        for deed in all_deeds(SIZE):
            self.assertIs(is_script(SIZE, deed), False, deed)
            self.assertIs(is_script(SIZE, [deed]), False, deed)

    def test_other_objects(self):
        for thing in OTHERS:
            self.assertIs(is_script(1, thing), False)
            self.assertIs(is_script(6, (thing,)), False)
            for deed in [(thing, 0, 1), ("over", thing, 1), ("under", 0, thing), ("write", thing, 1), ("throw", 0, thing)]:
                self.assertIs(is_script(6, (deed,)), False)


class Lists(unittest.TestCase):
    def assert_as_with_papers(self, size, script, path):
        lists = lists_of(size, script, path)
        self.assertEqual(lists, lists_by_hand(size, script, path), (size, script, path))
        self.assertEqual({type(sources) for sources in (lists, *lists)}, {tuple})
        for contents in all_contents(size):
            papers = papers_at(size, script, path, contents)
            self.assertEqual(papers, papers_by_hand(size, script, path, contents), (size, script, path, contents))
            self.assertIs(type(papers), tuple)

    def test_against_doing_the_deeds_with_papers(self):
        for size, script, path in some_scripts(250, 62):
            self.assert_as_with_papers(size, script, path)

    def test_each_pair_of_deeds(self):
        for first in all_deeds(2):
            for second in all_deeds(2):
                self.assert_as_with_papers(2, (first, second), 1)

    def test_thirty_deeds(self):
        chance = random.Random(63)
        for size in range(1, 7):
            for path in (None, 2):
                self.assert_as_with_papers(size, some_script(chance, size, 30, path), 2)

    def test_no_deeds(self):
        for size in range(1, 7):
            self.assertEqual(lists_of(size, (), 0), tuple(firsts(folder) for folder in range(size)))
            self.assert_as_with_papers(size, (), 3)

    def test_over_puts_ahead_and_under_behind(self):
        self.assertEqual(lists_of(2, (("over", 0, 1),), 0), (firsts(0), firsts(0, 1)))
        self.assertEqual(lists_of(2, (("under", 0, 1),), 0), (firsts(0), firsts(1, 0)))

    def test_of_a_source_that_would_stand_twice_the_first_one_stays(self):
        script = (("over", 0, 1), ("over", 2, 1))
        self.assertEqual(lists_of(3, script, 0)[1], firsts(2, 0, 1))
        self.assertEqual(lists_of(3, script + (("over", 0, 1),), 0)[1], firsts(0, 2, 1))
        self.assertEqual(lists_of(3, script + (("under", 0, 1),), 0)[1], firsts(2, 0, 1))
        self.assertEqual(lists_of(3, script + (("over", 1, 0),), 0)[0], firsts(2, 0, 1))

    def test_nothing_stands_behind_a_written_source(self):
        script = (("write", 1, 0), ("over", 1, 0), ("over", 2, 1))
        written = ("written", 0)
        self.assertEqual(lists_of(3, script, 0), ((written,), (("first", 2), written), firsts(2)))
        self.assertEqual(lists_of(3, script + (("under", 2, 0),), 0)[0], (written,))
        self.assertEqual(lists_of(3, script + (("under", 0, 2),), 0)[2], (("first", 2), written))
        self.assertEqual(lists_of(3, script + (("over", 1, 2), ("under", 0, 2)), 0)[2], (("first", 2), written))
        self.assertEqual(papers_at(3, script, 0, ()), (written, written, None))
        self.assertEqual(papers_at(3, script, 0, (0, 2)), (written, ("first", 2), ("first", 2)))

    def test_a_written_source_ahead_takes_another_one_out(self):
        script = (("write", 0, 0), ("write", 1, 0), ("over", 0, 1), ("under", 1, 0), ("throw", 0, 0), ("under", 1, 0))
        self.assertEqual(lists_of(2, script[:3], 0)[1], (("written", 0),))
        self.assertEqual(lists_of(2, script, 0), ((("written", 0),), (("written", 0),)))

    def test_other_paths_change_nothing(self):
        script = (("write", 0, 1), ("throw", 1, 1))
        self.assertEqual(lists_of(2, script, 0), (firsts(0), firsts(1)))
        self.assertEqual(lists_of(2, script, 1), ((("written", 0),), ()))
        self.assertEqual(lists_of(2, script, 3), (firsts(0), firsts(1)))

    def test_an_empty_list_copies_nothing(self):
        script = (("throw", 0, 0), ("over", 0, 1), ("under", 0, 1))
        self.assertEqual(lists_of(2, script, 0), ((), firsts(1)))
        self.assertEqual(lists_of(2, script + (("under", 1, 0),), 0), (firsts(1), firsts(1)))

    def test_a_written_source_is_told_by_its_place(self):
        script = (("write", 0, 0), ("write", 0, 1), ("over", 0, 1), ("write", 0, 0))
        self.assertEqual(lists_of(2, script, 0), ((("written", 3),), (("written", 0),)))
        self.assertEqual(lists_of(2, script, 1), ((("written", 1),), (("written", 1),)))


class ListsAlong(unittest.TestCase):
    def test_at_first_and_after_each_deed(self):
        for size, script, path in some_scripts(100, 64):
            wanted = [lists_of(size, script[:many], path) for many in range(len(script) + 1)]
            self.assertEqual(lists_along(size, script, path), wanted)

    def test_what_stands_along(self):
        for size, script, path in some_scripts(60, 65, sizes=(1, 2, 3)):
            for contents in all_contents(size):
                for lists, papers in zip(lists_along(size, script, path), papers_along(size, script, contents)):
                    for folder, sources in enumerate(lists):
                        there = [s for s in sources if s[0] == "written" or s[1] in contents]
                        self.assertEqual(there[0] if there else None, papers.get((folder, path)))

    def test_a_new_list_each_time(self):
        first = lists_along(SIZE, SCRIPT, 2)
        self.assertIs(type(first), list)
        self.assertEqual(len(first), 7)
        kept = list(first)
        first.clear()
        self.assertEqual(lists_along(SIZE, SCRIPT, 2), kept)
        self.assertEqual(lists_along(2, (), 0), [(firsts(0), firsts(1))])


class ContentsFor(unittest.TestCase):
    def test_against_all_first_contents(self):
        for size, script, path in some_scripts(200, 66):
            found = {contents: papers_by_hand(size, script, path, contents) for contents in all_contents(size)}
            lists = lists_by_hand(size, script, path)
            for folder in range(size):
                for source in sources_of(size, script, path):
                    contents = contents_for(size, script, path, folder, source)
                    if contents is None:
                        self.assertFalse([told for told in found if found[told][folder] == source])
                        self.assertNotIn(source, lists[folder])
                    else:
                        self.assertIs(type(contents), tuple)
                        self.assertEqual(found[contents][folder], source)
                        self.assertIn(source, lists[folder])

    def test_sources_that_are_none_at_this_path(self):
        script = (("write", 0, 1), ("throw", 1, 1), ("over", 0, 1))
        self.assertIsNotNone(contents_for(2, script, 1, 1, ("written", 0)))
        for path, number in [(0, 0), (1, 1), (1, 2), (1, 3), (2, 0), (1, -3)]:
            with self.assertRaises(BadSource):
                contents_for(2, script, path, 1, ("written", number))
        with self.assertRaises(BadSource):
            contents_for(2, script[:1], 1, 0, ("written", -1))

    def test_folders_and_sources_by_the_size(self):
        for size in range(1, 7):
            self.assertIsNotNone(contents_for(size, (), 0, size - 1, ("first", size - 1)))
            with self.assertRaises(BadFolder):
                contents_for(size, (), 0, size, ("first", 0))
            with self.assertRaises(BadSource):
                contents_for(size, (), 0, 0, ("first", size))


if __name__ == "__main__":
    unittest.main()
