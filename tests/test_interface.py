"""The names and arguments of the interface, and where they are defined."""

import importlib
import inspect
import unittest

FUNCTIONS = {
    "numbers": {
        "write_number": ["number"],
        "write_integer": ["number"],
        "write_integers": ["numbers"],
        "write_bytes": ["values"],
        "write_text": ["text"],
        "read_number": ["values", "index"],
        "read_integer": ["values", "index"],
        "read_integers": ["values", "index"],
        "read_bytes": ["values", "index"],
        "read_text": ["values", "index"],
        "check_of": ["values"],
    },
    "kinds": {
        "width": ["kind"],
        "least": ["kind"],
        "greatest": ["kind"],
        "store_values": ["kind", "values"],
        "load_values": ["kind", "stored"],
    },
    "shapes": {
        "is_shape": ["shape"],
        "element_count": ["shape"],
        "rank_of": ["shape", "index"],
        "index_of": ["shape", "rank"],
        "indexes_in": ["shape"],
    },
    "selections": {
        "whole": ["shape"],
        "selection_size": ["selection"],
        "fits": ["shape", "selection"],
        "picked": ["shape", "selection"],
        "meeting": ["first", "second"],
    },
    "filters": {
        "is_chain": ["names"],
        "apply_filter": ["name", "values", "size"],
        "undo_filter": ["name", "values", "size"],
        "apply_chain": ["names", "values", "size"],
        "undo_chain": ["names", "values", "size"],
    },
    "records": {
        "make_record": ["kind", "content"],
        "read_record": ["disk", "kind", "pointer"],
    },
    "seals": {
        "make_seal": ["batch", "root"],
        "seal_at": ["disk", "address"],
        "last_seal": ["disk"],
        "make_ready": ["disk"],
    },
    "trees": {
        "find": ["log", "root", "key"],
        "put": ["log", "root", "key", "pointer"],
        "remove": ["log", "root", "key"],
        "entries": ["log", "root", "*low", "*high"],
        "tree_depth": ["log", "root"],
        "node_pointers": ["log", "root"],
    },
    "layouts": {
        "is_chunk_shape": ["shape", "dimensions"],
        "grid_index": ["chunk_shape", "index"],
        "grids_of": ["layout", "shape", "selection"],
    },
    "chunks": {
        "encode_chunk": ["layout", "values"],
        "decode_chunk": ["layout", "content"],
        "load_chunk": ["log", "layout", "root", "grid"],
        "save_chunk": ["log", "layout", "root", "grid", "values"],
    },
    "slabs": {
        "read_slab": ["log", "layout", "root", "shape", "selection"],
        "write_slab": ["log", "layout", "root", "shape", "selection", "values"],
        "resize_slabs": ["log", "layout", "root", "old", "new"],
    },
    "paths": {
        "is_name": ["name"],
        "is_path": ["path"],
        "parent": ["path"],
        "lies_in": ["path", "other"],
        "key_of": ["path"],
        "path_of": ["key"],
        "range_in": ["path"],
    },
    "objects": {
        "write_object": ["thing"],
        "read_object": ["content"],
        "is_attribute": ["name", "value"],
        "is_piece": ["piece", "shape"],
    },
    "opening": {"new_store": ["disk"], "open_store": ["disk"]},
    "views": {"deciding_piece": ["view", "index"], "source_index": ["piece", "index"]},
    "inspecting": {"inspect": ["disk"], "live_pointers": ["disk"], "is_sound": ["disk"], "compacted": ["disk"]},
    "loading": {"load": ["disk", "text"]},
    "history": {
        "batches": ["disk"],
        "look_at": ["disk", "batch"],
        "changed_paths": ["disk", "first", "second"],
        "changed_chunks": ["disk", "first", "second", "path"],
    },
    "scripts": {"run_line": ["store", "line"], "run_script": ["store", "text"]},
    "dumps": {"dump": ["store"]},
    "sums": {"summary": ["store", "path", "selection"], "first_difference": ["store", "path", "other"]},
    "repairing": {"repaired": ["disk"]},
    "expressions": {
        "depth": ["expression"],
        "paths_of": ["expression"],
        "is_expression": ["expression"],
        "format_expression": ["expression"],
        "parse_expression": ["text"],
    },
    "evaluating": {
        "expression_shape": ["store", "expression"],
        "evaluate": ["store", "expression", "selection"],
        "store_expression": ["store", "path", "selection", "expression"],
    },
}

METHODS = {
    ("disks", "Disk"): {
        "__init__": ["self", "values"],
        "__len__": ["self"],
        "part": ["self", "address", "count"],
        "append": ["self", "values"],
        "cut": ["self", "count"],
        "change": ["self", "address", "value"],
        "copied": ["self"],
    },
    ("logs", "Log"): {
        "__init__": ["self", "disk"],
        "put": ["self", "kind", "content"],
        "fetch": ["self", "kind", "pointer"],
        "seal": ["self", "root"],
        "drop": ["self"],
    },
    ("plain", "PlainArray"): {
        "__init__": ["self", "shape", "fill"],
        "all_values": ["self"],
        "read": ["self", "selection"],
        "write": ["self", "selection", "values"],
        "resize": ["self", "shape"],
    },
    ("history", "Look"): {
        "read": ["self", "path", "selection"],
        "attributes_of": ["self", "path"],
        "kind_at": ["self", "path"],
        "shape_of": ["self", "path"],
        "layout_of": ["self", "path"],
        "pieces_of": ["self", "path"],
        "names_in": ["self", "path"],
        "paths": ["self"],
        "chunk_pointer": ["self", "path", "grid"],
    },
    ("layouts", "Layout"): {
        "__init__": ["self", "kind", "chunk_shape", "fill", "filters"],
        "__eq__": ["self", "other"],
    },
    ("objects", "Group"): {"__init__": ["self", "attributes"]},
    ("objects", "ArrayObject"): {"__init__": ["self", "attributes", "shape", "layout", "root"]},
    ("objects", "View"): {"__init__": ["self", "attributes", "kind", "shape", "fill", "pieces"]},
    ("stores", "Store"): {
        "make_group": ["self", "path"],
        "make_array": ["self", "path", "kind", "shape", "*chunks", "*fill", "*filters"],
        "make_view": ["self", "path", "kind", "shape", "*pieces", "*fill"],
        "add_piece": ["self", "path", "piece"],
        "remove": ["self", "path"],
        "move": ["self", "path", "other"],
        "duplicate": ["self", "path", "other"],
        "set_attribute": ["self", "path", "name", "value"],
        "remove_attribute": ["self", "path", "name"],
        "attributes_of": ["self", "path"],
        "write": ["self", "path", "selection", "values"],
        "resize": ["self", "path", "shape"],
        "read": ["self", "path", "selection"],
        "kind_at": ["self", "path"],
        "shape_of": ["self", "path"],
        "layout_of": ["self", "path"],
        "pieces_of": ["self", "path"],
        "names_in": ["self", "path"],
        "paths": ["self"],
        "chunk_pointer": ["self", "path", "grid"],
        "commit": ["self"],
        "discard": ["self"],
    },
}

PROPERTIES = {("logs", "Log"): ["batch", "pending"], ("stores", "Store"): ["batch"], ("history", "Look"): ["batch"]}
GENERATORS = [("shapes", "indexes_in"), ("trees", "entries")]


def arguments_of(function):
    """The names of the arguments, with a star where they are passed by keyword only."""
    found = []
    for name, parameter in inspect.signature(function).parameters.items():
        found.append("*" + name if parameter.kind == parameter.KEYWORD_ONLY else name)
    return found


def defaults_of(function):
    parameters = inspect.signature(function).parameters.items()
    return {name: parameter.default for name, parameter in parameters if parameter.default != parameter.empty}


class InterfaceTests(unittest.TestCase):
    def test_functions(self):
        for file, functions in FUNCTIONS.items():
            module = importlib.import_module("tessera." + file)
            for name, arguments in functions.items():
                with self.subTest(file=file, name=name):
                    function = getattr(module, name)
                    self.assertEqual(arguments_of(function), arguments)
                    self.assertEqual(function.__module__, module.__name__)

    def test_methods_stand_in_the_class_itself(self):
        for (file, name), methods in METHODS.items():
            module = importlib.import_module("tessera." + file)
            self.assertEqual(getattr(module, name).__module__, module.__name__)
            for method, arguments in methods.items():
                with self.subTest(file=file, name=method):
                    self.assertEqual(arguments_of(vars(getattr(module, name))[method]), arguments)

    def test_properties_stand_in_the_class_itself(self):
        for (file, name), properties in PROPERTIES.items():
            module = importlib.import_module("tessera." + file)
            for each in properties:
                self.assertIsInstance(vars(getattr(module, name))[each], property)

    def test_generators(self):
        for file, name in GENERATORS:
            function = getattr(importlib.import_module("tessera." + file), name)
            self.assertTrue(inspect.isgeneratorfunction(function))

    def test_default_values(self):
        trees = importlib.import_module("tessera.trees")
        self.assertEqual(defaults_of(trees.entries), {"low": (), "high": None})
        store = importlib.import_module("tessera.stores").Store
        self.assertEqual(defaults_of(store.make_array), {"fill": 0, "filters": ()})
        self.assertEqual(defaults_of(store.make_view), {"fill": 0})


if __name__ == "__main__":
    unittest.main()
