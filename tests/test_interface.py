import importlib
import inspect
import unittest

INTERFACE = {
    "rowcoders.coders": {
        "is_row": ["k", "candidate"],
        "is_chain": ["k", "candidate"],
        "coders": ["k"],
        "family": ["k"],
        "code_of": ["k", "chain", "row"],
        "written_along": ["k", "chain", "row"],
    },
    "rowcoders.rates": {
        "greatest_rate": ["k", "chain"],
        "least_rate": ["k", "chain"],
        "longest_row": ["k", "chain"],
        "shortest_row": ["k", "chain"],
    },
    "rowcoders.lengths": {
        "length_range": ["k", "chain", "many"],
        "count_lengths": ["k", "chain", "many"],
        "row_of_length": ["k", "chain", "many", "length"],
    },
    "rowcoders.likeness": {
        "parting_row": ["k", "one", "other"],
        "same_as": ["k", "chain"],
        "failing_row": ["k", "one", "other"],
    },
    "rowcoders.twins": {
        "twins": ["k", "chain"],
    },
    "rowcoders.back": {
        "first_row": ["k", "chain", "code"],
        "count_rows": ["k", "chain", "code", "many"],
    },
    "rowcoders.reading": {
        "could_code": ["k", "row", "code"],
        "could_write": ["k", "code"],
    },
}


class Interface(unittest.TestCase):
    def test_names_arguments_and_modules(self):
        for module, functions in INTERFACE.items():
            for name, arguments in functions.items():
                with self.subTest(module=module, name=name):
                    function = getattr(importlib.import_module(module), name)
                    self.assertEqual(function.__module__, module)
                    parameters = inspect.signature(function).parameters.values()
                    self.assertEqual([one.name for one in parameters], arguments)
                    self.assertTrue(all(one.default is one.empty for one in parameters))


if __name__ == "__main__":
    unittest.main()
