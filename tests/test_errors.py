"""errors.py: bases and attributes."""

import unittest

from eitherbarter import errors
from tests.helpers import anything

PLAIN = ("UnlikeBooks", "TooGreat", "NothingDone")
WITH_PATH = ("BadBook", "BadStock", "BadTree", "BadAccount", "BadPrices", "BadMade")
WITH_ONE = {
    "NotGood": "square", "NoAccount": "row", "Pumped": "account", "BadDeed": "number",
    "BadOrder": "number", "BadText": "place", "BadAct": "word",
}


class Bases(unittest.TestCase):
    def test_each_class_has_just_the_one_base_that_is_told(self):
        self.assertEqual(errors.BarterError.__bases__, (ValueError,))
        self.assertEqual(errors.NameMissing.__bases__, (LookupError,))
        self.assertEqual(errors.UnknownName.__bases__, (errors.NameMissing,))
        for name in [*PLAIN, *WITH_PATH, *WITH_ONE]:
            with self.subTest(name):
                self.assertEqual(getattr(errors, name).__bases__, (errors.BarterError,))

    def test_there_are_no_other_classes(self):
        told = {"BarterError", "NameMissing", "UnknownName", *PLAIN, *WITH_PATH, *WITH_ONE}
        self.assertEqual({name for name, value in vars(errors).items() if isinstance(value, type)}, told)

    def test_value_errors_and_lookup_errors(self):
        for name in ["BarterError", *PLAIN, *WITH_PATH, *WITH_ONE]:
            self.assertTrue(issubclass(getattr(errors, name), ValueError), name)
            self.assertFalse(issubclass(getattr(errors, name), LookupError), name)
        for one in (errors.NameMissing, errors.UnknownName):
            self.assertTrue(issubclass(one, LookupError))
            self.assertFalse(issubclass(one, ValueError))
            self.assertFalse(issubclass(one, errors.BarterError))

    def test_they_are_defined_in_this_file(self):
        for name in ["BarterError", "NameMissing", "UnknownName", *PLAIN, *WITH_PATH, *WITH_ONE]:
            self.assertEqual(getattr(errors, name).__module__, "eitherbarter.errors")


class Attributes(unittest.TestCase):
    def test_without_arguments(self):
        for name in ["BarterError", "NameMissing", *PLAIN]:
            with self.assertRaises(getattr(errors, name)):
                raise getattr(errors, name)()

    def test_paths_are_kept_as_tuples(self):
        for name in WITH_PATH:
            for path in ((), (0,), (1, 2, 3), ("a", None, [1]), [], [0], [1, 0, 1, 4]):
                error = getattr(errors, name)(path)
                self.assertIs(type(error.path), tuple, name)
                self.assertEqual(error.path, tuple(path), name)

    def test_a_list_that_was_passed_as_path_is_not_kept(self):
        path = [1, 0]
        error = errors.BadBook(path)
        path.append(2)
        self.assertEqual(error.path, (1, 0))

    def test_all_others_are_kept_as_they_are(self):
        for name, attribute in [*WITH_ONE.items(), ("UnknownName", "name")]:
            for value in anything():
                self.assertIs(getattr(getattr(errors, name)(value), attribute), value, name)

    def test_they_can_be_raised_and_caught(self):
        with self.assertRaises(errors.BarterError) as caught:
            raise errors.BadText(7)
        self.assertEqual(caught.exception.place, 7)
        with self.assertRaises(LookupError) as caught:
            raise errors.UnknownName("x")
        self.assertEqual(caught.exception.name, "x")


if __name__ == "__main__":
    unittest.main()
