"""The errors of the interface: their base classes and their attributes."""

import unittest

from wardens import errors

NAMES = (
    "SourceError", "NotFound", "TooMany", "NotARun", "WrongChoices", "OtherReadings", "NoFit",
    "NameTaken", "NoRequirement", "BadMonitor",
)
PLAIN = ("NotARun", "WrongChoices", "OtherReadings", "NoFit", "NameTaken", "NoRequirement")


class TestErrors(unittest.TestCase):
    def test_base_classes(self):
        self.assertTrue(issubclass(errors.WardenError, ValueError))
        for name in NAMES:
            self.assertEqual(getattr(errors, name).__bases__, (errors.WardenError,), name)

    def test_none_of_the_others_is_a_base_class_of_another(self):
        classes = [getattr(errors, name) for name in NAMES]
        for one in classes:
            for other in classes:
                self.assertEqual(issubclass(one, other), one is other, (one, other))

    def test_each_class_is_defined_in_the_file(self):
        for name in ("WardenError",) + NAMES:
            self.assertEqual(getattr(errors, name).__module__, "wardens.errors")

    def test_source_error(self):
        error = errors.SourceError(3, 14, "expected ;")
        self.assertEqual((error.line, error.column, error.what), (3, 14, "expected ;"))

    def test_not_found(self):
        for kind in ("requirement", "warden"):
            error = errors.NotFound(kind, "calm")
            self.assertEqual((error.kind, error.name), (kind, "calm"))

    def test_too_many(self):
        for what in ("states", "readings", "pairs", "sets", "twins", "tests", "wardens", "operations"):
            self.assertEqual(errors.TooMany(what).what, what)

    def test_bad_monitor(self):
        self.assertEqual(errors.BadMonitor(0).line, 0)
        self.assertEqual(errors.BadMonitor(7).line, 7)

    def test_errors_without_attributes(self):
        for name in PLAIN:
            with self.assertRaises(errors.WardenError):
                raise getattr(errors, name)()

    def test_attributes_belong_to_each_object(self):
        one, other = errors.SourceError(1, 2, "a"), errors.SourceError(3, 4, "b")
        self.assertEqual((one.line, one.column, one.what), (1, 2, "a"))
        self.assertEqual((other.line, other.column, other.what), (3, 4, "b"))
        self.assertNotIn("what", vars(errors.SourceError))


if __name__ == "__main__":
    unittest.main()
