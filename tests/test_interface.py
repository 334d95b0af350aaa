"""The interface: its names stand in the files under which the document lists them."""

import ast
import importlib
import inspect
import pathlib
import unittest

PACKAGE = pathlib.Path(__file__).resolve().parent.parent / "fieldquery"

FUNCTIONS = {
    "schemas": {"field_key": ["field"]},
    "printing": {"form_text": ["schema", "form"]},
    "forms": {"normal_form": ["schema", "text"]},
    "reading": {"read_query": ["text"]},
    "fieldforms": {
        "field_form": ["query"],
        "union_of": ["schema", "forms"],
        "common_of": ["first", "second"],
        "contains": ["first", "second"],
        "remainder_of": ["form", "other"],
        "combine": ["schema", "queries"],
        "common": ["first", "second"],
        "remainder": ["queries", "query"],
        "max_objects": ["query", "length"],
    },
    "graphs": {
        "check_graph": ["schema", "graph"],
        "evaluate": ["graph", "query", "*", "most=300"],
        "difference": ["first", "second"],
        "undetermined": ["queries", "query"],
    },
    "knowledge": {
        "matches": ["query", "response"],
        "project": ["queries", "responses", "query"],
    },
    "papers": {
        "judge_determined": ["queries", "query", "paper"],
        "judge_same": ["first", "second", "paper"],
        "judge_told": ["queries", "responses", "paper"],
        "explain_determined": ["queries", "query"],
        "explain_same": ["first", "second"],
        "explain_told": ["queries", "responses"],
    },
}
CLASSES = {
    "errors": {
        "FieldError": {},
        "SyntaxFault": {"__init__": ["self", "offset"]},
        "CheckFault": {"__init__": ["self", "reason", "name"]},
        "NoMatch": {"__init__": ["self", "index"]},
        "BadSchema": {}, "TooLong": {}, "BadGraph": {}, "TooLarge": {},
        "NotDetermined": {}, "Contradiction": {}, "StoreFull": {},
    },
    "schemas": {
        "Schema": {
            "__init__": ["self", "types"],
            "field_of": ["self", "type_name", "name"],
            "place_of": ["self", "type_names"],
            "targets_of": ["self", "type_name", "name"],
        },
    },
    "queries": {"Query": {"__init__": ["self", "schema", "text"], "__eq__": ["self", "other"]}},
    "stores": {
        "Store": {
            "__init__": ["self", "schema"],
            "write": ["self", "query", "response"],
            "undo": ["self"],
            "read": ["self", "query"],
            "missing": ["self", "query"],
            "witnesses": ["self", "query"],
            "graph": ["self"],
            "known_count": ["self"],
            "tried": ["self"],
            "foresee": ["self", "query", "response"],
            "__len__": ["self"],
            "__iter__": ["self"],
        },
    },
}


def defined(module):
    """The names that a file of the package defines itself, by def or by class."""
    rows = ast.parse((PACKAGE / f"{module}.py").read_text()).body
    functions = [row.name for row in rows if isinstance(row, ast.FunctionDef)]
    classes = [row.name for row in rows if isinstance(row, ast.ClassDef)]
    return functions, classes


class TestInterface(unittest.TestCase):
    def assert_parameters(self, function, parameters):
        # A signature without annotations is written like the parameters in the code.
        self.assertEqual(str(inspect.signature(function)), "(" + ", ".join(parameters) + ")")

    def test_functions(self):
        for module, functions in FUNCTIONS.items():
            for name, parameters in functions.items():
                with self.subTest(f"{module}.{name}"):
                    self.assertIn(name, defined(module)[0])
                    function = getattr(importlib.import_module(f"fieldquery.{module}"), name)
                    self.assert_parameters(function, parameters)

    def test_classes(self):
        for module, classes in CLASSES.items():
            for name, methods in classes.items():
                with self.subTest(f"{module}.{name}"):
                    self.assertIn(name, defined(module)[1])
                    own = vars(getattr(importlib.import_module(f"fieldquery.{module}"), name))
                    for method, parameters in methods.items():
                        self.assert_parameters(own[method], parameters)

    def test_root_is_a_property(self):
        schemas = importlib.import_module("fieldquery.schemas")
        self.assertIsInstance(vars(schemas.Schema)["root"], property)

    def test_attributes_are_set_when_the_object_is_created(self):
        schemas = importlib.import_module("fieldquery.schemas")
        schema = schemas.Schema((("T", ()),))
        self.assertLessEqual({"types", "names"}, set(vars(schema)))
        queries = importlib.import_module("fieldquery.queries")
        self.assertLessEqual({"schema", "form", "text"}, set(vars(queries.Query(schema, "{}"))))


if __name__ == "__main__":
    unittest.main()
