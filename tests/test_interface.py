"""The interface's opening paragraph and point 3: what has to exist, where, and what it may not use."""

import importlib
import inspect
import unittest

FUNCTIONS = {
    "topiary.orders": {"order": ["row"], "steps": ["row", "places"], "common": ["row", "first", "second"]},
    "topiary.turned": {"turn": ["row"], "next_place": ["items", "place"], "fault": ["items"], "recover": ["items"]},
    "topiary.finder": {"row_of_texts": ["texts"]},
    "topiary.plain": {
        "is_name": ["word"], "is_text": ["string"], "is_document": ["tree"], "nodes_of": ["tree"],
        "same_tree": ["tree", "other"], "node_at": ["tree", "node"], "parent_of": ["tree", "node"],
        "children_of": ["tree", "node"], "depth_of": ["tree", "node"], "upward_path": ["tree", "node"],
    },
    "topiary.reader": {"read_document": ["text"]},
    "topiary.writer": {"write_document": ["tree"]},
    "topiary.rows": {"same_rows": ["rows", "other"], "rows_of": ["tree"], "tree_of": ["rows"]},
    "topiary.judge": {"judge_rows": ["rows"]},
    "topiary.moves": {
        "name": ["kept", "row"], "text": ["kept", "row"], "family": ["kept", "row"], "child": ["kept", "row", "k"],
        "parent": ["kept", "row"], "place": ["kept", "row"], "depth": ["kept", "row"], "weight": ["kept", "row"],
        "node_of": ["kept", "row"], "row_of": ["kept", "node"], "subtree": ["kept", "row"],
    },
    "topiary.paths": {"rows_under": ["kept", "names"], "rows_at": ["kept", "names"], "upward": ["kept", "row"]},
    "topiary.questions": {"is_proper": ["question"], "write_question": ["question"], "read_question": ["text"]},
    "topiary.meaning": {"nodes": ["tree", "question"], "found_from": ["tree", "node", "question"]},
    "topiary.evaluate": {"nodes_kept": ["kept", "question"]},
    "topiary.alike": {
        "members": ["first", "second"], "takes": ["question", "chain"],
        "places_after": ["question", "places", "member"], "accepts_paper": ["first", "second", "paper", "within"],
        "compare": ["first", "second"], "compare_within": ["first", "second"],
    },
    "topiary.edits": {"edited": ["tree", "edit"], "taken_back": ["tree", "edit"]},
    "topiary.codes": {
        "lengths_of": ["counts"], "code_of": ["lengths"], "is_full": ["lengths"], "steps_of": ["number"],
    },
    "topiary.box": {"stream_of": ["rows"], "bits_told": ["rows"], "pack": ["rows"], "unpack": ["numbers"]},
    "topiary.report": {
        "pieces_of": ["text", "size"], "show_lines": ["tree"], "rows_lines": ["rows"], "box_lines": ["rows"],
        "node_line": ["tree", "node"], "quoted": ["text"],
    },
    "topiary.desk": {"answers_of": ["lines"]},
}

CLASSES = {
    "topiary.bits": {"Bits": {"at": ["place"], "rank": ["i", "digit"], "select": ["k", "digit"], "row": []}},
    "topiary.wave": {
        "Wave": {
            "at": ["place"], "row": [], "rank": ["symbol", "i"], "select": ["symbol", "k"],
            "following": ["symbol", "i"], "present": ["first", "behind"],
        },
    },
    "topiary.finder": {
        "Finder": {
            "times": ["string"], "where": ["string"], "holds": ["number", "string"], "text": ["number"],
            "part": ["number", "start", "end"], "length": ["number"], "turned": [],
        },
    },
    "topiary.rows": {"Rows": {}},
    "topiary.moves": {"Kept": {"rows": []}},
    "topiary.layers": {
        "Layers": {
            "lay": ["edit"], "lift": [], "edits": [], "shown": [], "rows": [], "find": ["question"], "merge": [],
            "below": [],
        },
    },
    "topiary.desk": {"Desk": {"obey": ["line"], "lines": [], "shown": []}},
}

STARTS = {
    "Bits": ["row"], "Wave": ["row", "size"], "Finder": ["texts", "step"],
    "Rows": ["names", "labels", "lasts", "fulls", "texts"], "Kept": ["rows"],
    "Layers": ["tree"], "Desk": [],
}


class InterfaceTest(unittest.TestCase):
    def test_functions_are_defined_in_their_files(self):
        for name, functions in FUNCTIONS.items():
            module = importlib.import_module(name)
            for function, arguments in functions.items():
                with self.subTest(function):
                    found = getattr(module, function)
                    self.assertEqual(found.__module__, name)
                    self.assertEqual(list(inspect.signature(found).parameters), arguments)

    def test_classes_are_defined_in_their_files_with_their_methods(self):
        for name, classes in CLASSES.items():
            module = importlib.import_module(name)
            for kind, methods in classes.items():
                found = getattr(module, kind)
                self.assertEqual(found.__module__, name)
                self.assertEqual(list(inspect.signature(found).parameters), STARTS[kind])
                for method, arguments in methods.items():
                    with self.subTest(kind=kind, method=method):
                        self.assertIn(method, vars(found))
                        parameters = list(inspect.signature(vars(found)[method]).parameters)
                        self.assertEqual(parameters, ["self"] + arguments)


if __name__ == "__main__":
    unittest.main()
