import importlib
import inspect
import unittest

LISTED = {
    "saidthen.entries": {
        "is_name": ["thing"],
        "is_day": ["thing"],
        "is_worth": ["thing"],
        "need_entry": ["entry"],
        "need_book": ["book"],
    },
    "saidthen.force": {"counting": ["book", "n"]},
    "saidthen.asking": {
        "worth_of": ["book", "n", "name", "day"],
        "runs_of": ["book", "n", "name", "low", "high"],
        "came_about": ["book", "name", "day"],
        "became_of": ["book", "one", "other", "name", "low", "high"],
    },
}
ERRORS = ("BookError", "BadEntry", "BadBook", "NoEntry", "Closed", "TooMany", "Gone", "BadText")


class Interface(unittest.TestCase):
    def test_functions_have_their_names_and_arguments_in_their_files(self):
        for file, functions in LISTED.items():
            module = importlib.import_module(file)
            for name, arguments in functions.items():
                function = getattr(module, name)
                self.assertEqual(function.__module__, file)
                self.assertEqual(list(inspect.signature(function).parameters), arguments, name)

    def test_errors_are_defined_in_their_file(self):
        module = importlib.import_module("saidthen.errors")
        for name in ERRORS:
            self.assertEqual(getattr(module, name).__module__, "saidthen.errors")


if __name__ == "__main__":
    unittest.main()
