import unittest

from byhalves import errors

NAMES = (
    "BadBook BadLine BadHistory BadHistories BadBound BadTies BadPart BadLeads BadState Broken TooLarge NotAlike "
    "NotPlain NoKeeper BadNames BadPublisher TooMany BadLog BadMany BadIndex BadEdition BadName NoWord Twice BadText "
    "NoName BadNumber TooDeep BadPaper BadTable"
).split()


class ErrorsTest(unittest.TestCase):
    def test_refused_stands_under_value_error(self):
        self.assertEqual(errors.Refused.__bases__, (ValueError,))

    def test_each_stands_directly_under_refused(self):
        for name in NAMES:
            with self.subTest(name):
                self.assertEqual(getattr(errors, name).__bases__, (errors.Refused,))

    def test_there_are_no_others(self):
        found = [name for name in vars(errors) if not name.startswith("_")]
        self.assertEqual(sorted(found), sorted([*NAMES, "Refused"]))

    def test_what_is_kept(self):
        for name in [*NAMES, "Refused"]:
            for what in (-1, (1, -1), "word", None, True, ((2, (0, 1)),)):
                with self.subTest(name, what=what):
                    self.assertIs(getattr(errors, name)(what).what, what)
                    self.assertIs(getattr(errors, name)(what=what).what, what)

    def test_it_is_made_from_one_argument(self):
        for name in [*NAMES, "Refused"]:
            with self.subTest(name):
                self.assertRaises(TypeError, getattr(errors, name))
                self.assertRaises(TypeError, getattr(errors, name), 1, 2)
