import importlib
import inspect
import unittest

LISTED = {
    "saidthen.entries": {
        "is_name": ["thing"],
        "is_day": ["thing"],
        "is_worth": ["thing"],
        "need_entry": ["entry"],
        "need_book": ["book"],
    },
    "saidthen.force": {"counting": ["book", "n"]},
    "saidthen.asking": {
        "worth_of": ["book", "n", "name", "day"],
        "runs_of": ["book", "n", "name", "low", "high"],
        "came_about": ["book", "name", "day"],
        "became_of": ["book", "one", "other", "name", "low", "high"],
    },
    "saidthen.grounds": {"hangs_on": ["book", "n", "name", "low", "high"]},
    "saidthen.shorter": {"shortened": ["book"]},
    "saidthen.notes": {"shown": ["entry"], "written": ["book"], "read": ["text"]},
}
METHODS = {
    "add": ["entry"],
    "shorten": [],
    "worth": ["n", "name", "day"],
    "runs": ["n", "name", "low", "high"],
    "why": ["n", "name", "low", "high"],
    "last": [],
    "floor": [],
    "book": [],
}
ERRORS = ("BookError", "BadEntry", "BadBook", "NoEntry", "Closed", "TooMany", "Gone", "BadText")


class Interface(unittest.TestCase):
    def test_functions_have_their_names_and_arguments_in_their_files(self):
        for file, functions in LISTED.items():
            module = importlib.import_module(file)
            for name, arguments in functions.items():
                function = getattr(module, name)
                self.assertEqual(function.__module__, file)
                self.assertEqual(list(inspect.signature(function).parameters), arguments, name)

    def test_errors_are_defined_in_their_file(self):
        module = importlib.import_module("saidthen.errors")
        for name in ERRORS:
            self.assertEqual(getattr(module, name).__module__, "saidthen.errors")

    def test_the_keeper_has_its_methods_in_its_own_class(self):
        module = importlib.import_module("saidthen.keeper")
        self.assertEqual(module.Keeper.__module__, "saidthen.keeper")
        self.assertEqual(list(inspect.signature(module.Keeper).parameters), [])
        for name, arguments in METHODS.items():
            method = vars(module.Keeper)[name]
            self.assertEqual(list(inspect.signature(method).parameters)[1:], arguments, name)


if __name__ == "__main__":
    unittest.main()
