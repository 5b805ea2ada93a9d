import unittest

from officepapers import errors
from officepapers.errors import BadText, NoName, PaperError

PLAIN_NAMES = """BadDay BadCalendar BadNumber BadBook BadRoute BadScheme BadCode NotRight BadGap BadKind BadRegister
BadSize BadPath BadScript BadContents BadFolder BadSource BadReports BadRow BadHouse BadMode BadState BadPerson BadDeed
BadOffice BadPlan BadStep BadStretch BadMoment BadOrder BadKeep BadPlace NothingToUndo Full TooMany
BadCommand""".split()


def made_errors():
    made = [getattr(errors, name)("why") for name in PLAIN_NAMES]
    return made + [NoName("q"), BadText(7)]


class ErrorClasses(unittest.TestCase):
    def test_there_are_all_of_them(self):
        self.assertEqual(len(set(PLAIN_NAMES)), 36)
        for name in PLAIN_NAMES + ["PaperError", "NoName", "BadText"]:
            self.assertEqual(getattr(errors, name).__name__, name)
            self.assertEqual(getattr(errors, name).__module__, "officepapers.errors")

    def test_each_is_a_paper_error_and_a_value_error(self):
        self.assertEqual(PaperError.__bases__, (ValueError,))
        for error in made_errors():
            self.assertEqual(type(error).__bases__, (PaperError,))
            for base in (PaperError, ValueError):
                with self.assertRaises(base):
                    raise error

    def test_none_is_caught_as_another_one(self):
        made = made_errors()
        for at, error in enumerate(made):
            for place, other in enumerate(made):
                self.assertEqual(isinstance(error, type(other)), at == place)

    def test_no_name_keeps_its_name(self):
        self.assertEqual(NoName("q").name, "q")
        self.assertEqual(NoName(name="b").name, "b")

    def test_bad_text_keeps_its_place(self):
        self.assertEqual(BadText(7).place, 7)
        self.assertEqual(BadText(place=0).place, 0)

    def test_the_others_are_made_with_one_text(self):
        for name in PLAIN_NAMES + ["PaperError"]:
            self.assertEqual(str(getattr(errors, name)("why")), "why")


if __name__ == "__main__":
    unittest.main()
