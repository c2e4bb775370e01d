"""The interface: its names, the files that define them, and how the errors stand to each other."""

import importlib
import inspect
import unittest

from fractionparts.errors import NoQuotient, NoRow, Nought, PartError

FUNCTIONS = {
    "numbers": {"fraction": ["top", "bottom"], "is_fraction": ["thing"], "sum_of": ["one", "other"],
                "product_of": ["one", "other"], "part_of": ["one", "other"]},
    "rows": {"is_row": ["thing"], "plus": ["one", "other"], "times": ["one", "other"],
             "divided": ["one", "other"], "rate": ["row"]},
    "sharing": {"common": ["one", "other"]},
    "quotients": {"is_quotient": ["thing"], "quotient": ["top", "bottom"], "joined": ["one", "other"],
                  "rated": ["one"]},
    "parting": {"parts": ["row", "told"], "apart": ["one", "told"]},
    "growing": {"growth": ["one"]},
}


class FunctionsTest(unittest.TestCase):
    def test_names_files_and_arguments(self):
        for file, functions in FUNCTIONS.items():
            module = importlib.import_module(f"fractionparts.{file}")
            for name, arguments in functions.items():
                function = getattr(module, name)
                self.assertTrue(inspect.isfunction(function))
                self.assertEqual(function.__module__, f"fractionparts.{file}")
                self.assertEqual(list(inspect.signature(function).parameters), arguments)


class ErrorsTest(unittest.TestCase):
    def test_each_error_is_defined_in_its_file(self):
        for error in [PartError, NoRow, NoQuotient, Nought]:
            self.assertEqual(error.__module__, "fractionparts.errors")

    def test_bases(self):
        self.assertEqual(PartError.__bases__, (ValueError,))
        for error in [NoRow, NoQuotient, Nought]:
            self.assertEqual(error.__bases__, (PartError,))

    def test_none_of_the_last_three_is_below_another(self):
        for one in [NoRow, NoQuotient, Nought]:
            for other in [NoRow, NoQuotient, Nought]:
                self.assertIs(issubclass(one, other), one is other)

    def test_each_can_be_raised_with_words(self):
        for error in [PartError, NoRow, NoQuotient, Nought]:
            with self.assertRaises(ValueError):
                raise error("why")


if __name__ == "__main__":
    unittest.main()
