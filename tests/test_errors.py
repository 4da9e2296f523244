import unittest

from lastseen import errors

NAMES = ("BadRule", "BadMark", "BadMoment", "BadBounds", "NoRule", "BadThings", "NoThing", "BadText")


def made(name):
    if name == "BadText":
        return errors.BadText(3)
    return getattr(errors, name)("why")


class ErrorClasses(unittest.TestCase):
    def test_a_seen_error_is_a_value_error_and_no_other_refusal(self):
        self.assertTrue(issubclass(errors.SeenError, ValueError))
        refusal = errors.SeenError("why")
        for name in NAMES:
            self.assertNotIsInstance(refusal, getattr(errors, name))

    def test_each_is_a_seen_error_and_a_value_error(self):
        for name in NAMES:
            self.assertIsInstance(made(name), errors.SeenError, name)
            self.assertIsInstance(made(name), ValueError, name)

    def test_none_is_another_one(self):
        for name in NAMES:
            for other in NAMES:
                if name != other:
                    self.assertNotIsInstance(made(name), getattr(errors, other), (name, other))

    def test_each_is_defined_in_errors(self):
        for name in ("SeenError",) + NAMES:
            self.assertEqual(getattr(errors, name).__module__, "lastseen.errors")

    def test_each_is_raised_and_caught_by_its_name(self):
        for name in NAMES:
            with self.assertRaises(getattr(errors, name)):
                raise made(name)

    def test_bad_text_has_its_row(self):
        for row in (0, 1, 39, 40):
            with self.assertRaises(errors.BadText) as caught:
                raise errors.BadText(row)
            self.assertEqual(caught.exception.row, row)

    def test_rows_of_several_are_kept_apart(self):
        one, other = errors.BadText(1), errors.BadText(2)
        self.assertEqual((one.row, other.row), (1, 2))


if __name__ == "__main__":
    unittest.main()
