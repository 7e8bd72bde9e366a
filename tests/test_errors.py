import inspect
import unittest

from helper import KINDS
from volumehall import errors


class Errors(unittest.TestCase):
    def test_a_volume_error_is_a_value_error(self):
        self.assertEqual((ValueError,), errors.VolumeError.__bases__)

    def test_each_kind_stands_right_under_volume_error(self):
        for kind in KINDS:
            with self.subTest(kind):
                self.assertEqual((errors.VolumeError,), getattr(errors, kind).__bases__)

    def test_there_are_no_other_classes(self):
        found = [name for name, _ in inspect.getmembers(errors, inspect.isclass)]
        self.assertEqual(sorted([*KINDS, "VolumeError"]), sorted(found))

    def test_all_are_defined_in_the_file_of_errors(self):
        for kind in [*KINDS, "VolumeError"]:
            self.assertEqual("volumehall.errors", getattr(errors, kind).__module__)

    def test_each_kind_is_caught_by_its_name_only(self):
        for kind in KINDS:
            for other in KINDS:
                self.assertEqual(kind == other, issubclass(getattr(errors, kind), getattr(errors, other)))

    def test_bad_text_has_its_row(self):
        self.assertEqual(0, errors.BadText(0).row)
        self.assertEqual(17, errors.BadText(17).row)

    def test_a_kind_without_a_value_takes_a_text(self):
        for kind in KINDS:
            if kind != "BadText":
                self.assertEqual("why", str(getattr(errors, kind)("why")))


if __name__ == "__main__":
    unittest.main()
