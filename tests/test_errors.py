import unittest

from layerprint import errors

NAMES = ("NoBody", "Outside", "NoLayer", "NoProp", "BadReach", "BadPlace", "BadText")


class Errors(unittest.TestCase):
    def test_print_error_is_a_value_error(self):
        self.assertTrue(issubclass(errors.PrintError, ValueError))

    def test_each_refusal_is_a_print_error(self):
        for name in NAMES:
            with self.subTest(name):
                self.assertTrue(issubclass(getattr(errors, name), errors.PrintError))

    def test_no_refusal_is_one_of_the_other_classes(self):
        for name in NAMES:
            for other in NAMES:
                if name != other:
                    with self.subTest(name=name, other=other):
                        self.assertFalse(issubclass(getattr(errors, name), getattr(errors, other)))

    def test_all_are_classes_of_this_file(self):
        for name in ("PrintError",) + NAMES:
            self.assertEqual(getattr(errors, name).__module__, "layerprint.errors")

    def test_plain_refusals_are_raised_with_a_text(self):
        for name in ("PrintError",) + NAMES[:-1]:
            with self.assertRaises(errors.PrintError) as caught:
                raise getattr(errors, name)("why")
            self.assertIs(caught.exception.__class__, getattr(errors, name))

    def test_bad_text_has_its_row(self):
        for row in (0, 3, 19):
            with self.assertRaises(ValueError) as caught:
                raise errors.BadText(row)
            self.assertEqual(caught.exception.row, row)
        self.assertEqual(errors.BadText(row=5).row, 5)

    def test_each_bad_text_has_a_row_of_its_own(self):
        one, other = errors.BadText(1), errors.BadText(2)
        self.assertEqual((one.row, other.row), (1, 2))
        self.assertNotIn("row", vars(errors.BadText))


if __name__ == "__main__":
    unittest.main()
