"""The names and arguments of the interface, and where they are defined."""

import importlib
import inspect
import unittest

FUNCTIONS = {
    "numbers": {
        "write_number": ["number"],
        "write_integer": ["number"],
        "write_integers": ["numbers"],
        "write_bytes": ["values"],
        "write_text": ["text"],
        "read_number": ["values", "index"],
        "read_integer": ["values", "index"],
        "read_integers": ["values", "index"],
        "read_bytes": ["values", "index"],
        "read_text": ["values", "index"],
        "check_of": ["values"],
    },
    "kinds": {
        "width": ["kind"],
        "least": ["kind"],
        "greatest": ["kind"],
        "store_values": ["kind", "values"],
        "load_values": ["kind", "stored"],
    },
    "shapes": {
        "is_shape": ["shape"],
        "element_count": ["shape"],
        "rank_of": ["shape", "index"],
        "index_of": ["shape", "rank"],
        "indexes_in": ["shape"],
    },
    "selections": {
        "whole": ["shape"],
        "selection_size": ["selection"],
        "fits": ["shape", "selection"],
        "picked": ["shape", "selection"],
        "meeting": ["first", "second"],
    },
    "filters": {
        "is_chain": ["names"],
        "apply_filter": ["name", "values", "size"],
        "undo_filter": ["name", "values", "size"],
        "apply_chain": ["names", "values", "size"],
        "undo_chain": ["names", "values", "size"],
    },
    "records": {
        "make_record": ["kind", "content"],
        "read_record": ["disk", "kind", "pointer"],
    },
    "seals": {
        "make_seal": ["batch", "root"],
        "seal_at": ["disk", "address"],
        "last_seal": ["disk"],
        "make_ready": ["disk"],
    },
}

METHODS = {
    ("disks", "Disk"): {
        "__init__": ["self", "values"],
        "__len__": ["self"],
        "part": ["self", "address", "count"],
        "append": ["self", "values"],
        "cut": ["self", "count"],
        "change": ["self", "address", "value"],
        "copied": ["self"],
    },
}


def arguments_of(function):
    return list(inspect.signature(function).parameters)


class InterfaceTests(unittest.TestCase):
    def test_functions(self):
        for file, functions in FUNCTIONS.items():
            module = importlib.import_module("tessera." + file)
            for name, arguments in functions.items():
                with self.subTest(file=file, name=name):
                    function = getattr(module, name)
                    self.assertEqual(arguments_of(function), arguments)
                    self.assertEqual(function.__module__, module.__name__)

    def test_methods_stand_in_the_class_itself(self):
        for (file, name), methods in METHODS.items():
            module = importlib.import_module("tessera." + file)
            self.assertEqual(getattr(module, name).__module__, module.__name__)
            for method, arguments in methods.items():
                with self.subTest(file=file, name=method):
                    self.assertEqual(arguments_of(vars(getattr(module, name))[method]), arguments)

    def test_indexes_in_is_a_generator(self):
        shapes = importlib.import_module("tessera.shapes")
        self.assertTrue(inspect.isgeneratorfunction(shapes.indexes_in))


if __name__ == "__main__":
    unittest.main()
