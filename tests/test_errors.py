import unittest

from wheretrue import errors

MADE_WITHOUT_ARGUMENT = (
    "BadSize", "BadNumber", "BadForm", "BadSign", "TooDeep", "NotFine", "BadName", "UnknownName", "Circle", "InUse",
    "NothingToUndo", "NothingToRedo",
)


class ErrorsTest(unittest.TestCase):
    def test_base_class(self):
        self.assertEqual(errors.WhereError.__bases__, (ValueError,))

    def test_every_class_stands_directly_under_the_base_class(self):
        for name in MADE_WITHOUT_ARGUMENT + ("BadText", "BadEntry"):
            self.assertEqual(getattr(errors, name).__bases__, (errors.WhereError,), name)

    def test_classes_without_argument_are_raised_and_caught(self):
        for name in MADE_WITHOUT_ARGUMENT:
            with self.assertRaises(errors.WhereError) as caught:
                raise getattr(errors, name)()
            self.assertEqual(caught.exception.__class__.__name__, name)

    def test_no_class_stands_for_another_one(self):
        classes = {getattr(errors, name) for name in MADE_WITHOUT_ARGUMENT + ("BadText", "BadEntry")}
        self.assertEqual(len(classes), len(MADE_WITHOUT_ARGUMENT) + 2)

    def test_bad_text_has_its_arguments_as_fields(self):
        for error in (errors.BadText(3, 7), errors.BadText(column=7, line=3)):
            self.assertEqual((error.line, error.column), (3, 7))

    def test_bad_entry_has_its_argument_as_field(self):
        for error in (errors.BadEntry(4), errors.BadEntry(place=4)):
            self.assertEqual(error.place, 4)


if __name__ == "__main__":
    unittest.main()
