import inspect
import unittest

from backissues import errors

REFUSALS = (
    "BadNames", "BadReach", "BadReaders", "OfficeFull", "UnknownName", "NameTwice",
    "BadValue", "NotWritten", "UnknownReader", "BookFull", "NoSuchDeed", "TooManyCourses",
)


class ErrorsTest(unittest.TestCase):
    def test_back_error_stands_straight_under_value_error(self):
        self.assertEqual(errors.BackError.__bases__, (ValueError,))

    def test_each_refusal_stands_straight_under_back_error(self):
        for name in REFUSALS:
            with self.subTest(name):
                self.assertEqual(getattr(errors, name).__bases__, (errors.BackError,))

    def test_no_refusal_stands_under_another(self):
        for name in REFUSALS:
            for other in REFUSALS:
                if name != other:
                    with self.subTest(name=name, other=other):
                        self.assertFalse(issubclass(getattr(errors, name), getattr(errors, other)))

    def test_the_classes_bear_their_names_and_there_are_no_others(self):
        classes = inspect.getmembers(errors, inspect.isclass)
        self.assertEqual(sorted(name for name, kind in classes), sorted(REFUSALS + ("BackError",)))
        for name, kind in classes:
            self.assertEqual(kind.__name__, name)

    def test_each_is_raised_and_taken_by_name(self):
        for name in REFUSALS:
            kind = getattr(errors, name)
            for taken_as in (kind, errors.BackError, ValueError):
                with self.subTest(name=name, taken_as=taken_as):
                    with self.assertRaises(taken_as):
                        raise kind("words")


if __name__ == "__main__":
    unittest.main()
