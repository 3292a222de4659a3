import importlib
import inspect
import unittest

from rowcoders.desk import Desk

INTERFACE = {
    "rowcoders.coders": {
        "is_row": ["k", "candidate"],
        "is_chain": ["k", "candidate"],
        "coders": ["k"],
        "family": ["k"],
        "code_of": ["k", "chain", "row"],
        "written_along": ["k", "chain", "row"],
    },
    "rowcoders.rates": {
        "greatest_rate": ["k", "chain"],
        "least_rate": ["k", "chain"],
        "longest_row": ["k", "chain"],
        "shortest_row": ["k", "chain"],
    },
    "rowcoders.lengths": {
        "length_range": ["k", "chain", "many"],
        "count_lengths": ["k", "chain", "many"],
        "row_of_length": ["k", "chain", "many", "length"],
    },
    "rowcoders.likeness": {
        "parting_row": ["k", "one", "other"],
        "same_as": ["k", "chain"],
        "failing_row": ["k", "one", "other"],
    },
    "rowcoders.twins": {
        "twins": ["k", "chain"],
    },
    "rowcoders.back": {
        "first_row": ["k", "chain", "code"],
        "count_rows": ["k", "chain", "code", "many"],
    },
    "rowcoders.reading": {
        "could_code": ["k", "row", "code"],
        "could_write": ["k", "code"],
    },
    "rowcoders.hidden": {
        "fewest_signs": ["k", "chains"],
        "best_sign": ["k", "chains", "row", "written"],
    },
    "rowcoders.texts": {
        "format_row": ["k", "row"],
        "parse_row": ["k", "text"],
        "format_chain": ["k", "chain"],
        "parse_chain": ["k", "text"],
    },
    "rowcoders.naive": {
        "naive_twins": ["k", "chain", "many"],
        "naive_parting": ["k", "one", "other", "many"],
    },
}

DESK = {
    "__init__": ["self", "k", "chain"],
    "__eq__": ["self", "other"],
    "__len__": ["self"],
    "put": ["self", "sign"],
    "row": ["self"],
    "written": ["self"],
    "code": ["self"],
    "undo": ["self"],
    "redo": ["self"],
    "copy": ["self"],
}


def parameters_of(function):
    return list(inspect.signature(function).parameters.values())


class Interface(unittest.TestCase):
    def test_names_arguments_and_modules(self):
        for module, functions in INTERFACE.items():
            for name, arguments in functions.items():
                with self.subTest(module=module, name=name):
                    function = getattr(importlib.import_module(module), name)
                    self.assertEqual(function.__module__, module)
                    self.assertTrue(inspect.isfunction(function))
                    self.assert_arguments(function, arguments)

    def assert_arguments(self, function, arguments):
        parameters = parameters_of(function)
        self.assertEqual([one.name for one in parameters], arguments)
        self.assertTrue(all(one.default is one.empty for one in parameters))

    def test_the_desk(self):
        self.assertEqual((Desk.__module__, Desk.__bases__), ("rowcoders.desk", (object,)))
        for name, arguments in DESK.items():
            with self.subTest(name=name):
                # The class itself defines it.
                self.assertIn(name, vars(Desk))
                self.assert_arguments(vars(Desk)[name], arguments)


if __name__ == "__main__":
    unittest.main()
