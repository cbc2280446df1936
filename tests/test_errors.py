import unittest

from sourcelabels import errors

PLAIN = (
    "InvalidNumber", "InvalidLetters", "InvalidName", "InvalidSource", "InvalidLibrary", "InvalidLabel",
    "InvalidStyle", "InvalidIndex", "InvalidOrder", "InvalidTold", "InvalidText", "InvalidChange", "SameSource",
    "NotALabel", "NothingCommon", "NotThere", "NotALibrary", "OtherStyle", "NothingToUndo",
)
COUNTED = ("LabelsChange", "TooMany")


class Errors(unittest.TestCase):
    """[3]: the classes of the errors, and the interface of errors.py."""

    def test_the_base_is_a_value_error(self):
        self.assertEqual(errors.LabelError.__bases__, (ValueError,))

    def test_no_error_but_the_base_is_above_another_one(self):
        for name in PLAIN + COUNTED:
            self.assertEqual(getattr(errors, name).__bases__, (errors.LabelError,), name)

    def test_there_are_no_other_errors(self):
        found = [name for name, value in vars(errors).items() if isinstance(value, type)]
        self.assertEqual(sorted(found), sorted(PLAIN + COUNTED + ("LabelError",)))

    def test_they_are_defined_in_their_file(self):
        for name in PLAIN + COUNTED + ("LabelError",):
            self.assertEqual(getattr(errors, name).__module__, "sourcelabels.errors")

    def test_plain_errors_take_no_arguments(self):
        for name in PLAIN:
            with self.assertRaises(getattr(errors, name)):
                raise getattr(errors, name)()

    def test_counted_errors_have_a_count(self):
        for name in COUNTED:
            kind = getattr(errors, name)
            for count in (0, 1, 31, 10 ** 40):
                self.assertEqual(kind(count).count, count)
            self.assertEqual(kind(count=3).count, 3)
            with self.assertRaises(errors.LabelError) as caught:
                raise kind(7)
            self.assertEqual(caught.exception.count, 7)
            self.assertRaises(TypeError, kind)


if __name__ == "__main__":
    unittest.main()
