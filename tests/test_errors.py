import unittest

from countcycles import errors

NAMES = ("NoWidth", "NoRows", "NoRow", "NoRules", "NoRule", "NoColumn", "NoNumber", "NoText", "NotTable", "NotRules",
         "UnlikeWidths", "TooMuch", "NotThere", "Broken", "NothingDone")


class ErrorsTest(unittest.TestCase):

    def test_base_is_a_value_error(self):
        self.assertEqual(errors.ColumnError.__bases__, (ValueError,))

    def test_each_is_a_direct_subclass(self):
        self.assertEqual(len(NAMES), 15)
        for name in NAMES:
            with self.subTest(name=name):
                kind = getattr(errors, name)
                self.assertEqual(kind.__bases__, (errors.ColumnError,))
                self.assertEqual(kind.__name__, name)

    def test_no_other_subclass(self):
        self.assertEqual(sorted(kind.__name__ for kind in errors.ColumnError.__subclasses__()), sorted(NAMES))

    def test_defined_in_this_file(self):
        for name in NAMES + ("ColumnError",):
            self.assertEqual(getattr(errors, name).__module__, "countcycles.errors")

    def test_take_a_message(self):
        for name in NAMES + ("ColumnError",):
            self.assertEqual(str(getattr(errors, name)("why")), "why")


if __name__ == "__main__":
    unittest.main()
