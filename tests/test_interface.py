"""The interface of the document: what must be defined, in which file, with which parameters."""

import ast
import importlib
import inspect
import os
import unittest

from boundonce.caches import Cache
from boundonce.catalogs import Catalog
from boundonce.records import Recorder

FOLDER = os.path.join(os.path.dirname(os.path.dirname(os.path.abspath(__file__))), "boundonce")

FUNCTIONS = {
    "names": {"is_name": "(thing)", "is_value": "(thing)", "is_values": "(thing)"},
    "deeds": {"is_deed": "(thing)", "after_deed": "(catalog, deed)", "after_deeds": "(catalog, deeds)"},
    "statements": {"is_statement": "(thing)", "is_view_statement": "(thing)", "is_path": "(thing)"},
    "texts": {"write": "(statement)", "read": "(text)"},
    "finding": {"meant": "(catalog, path, schema, name)", "schemas_ahead": "(catalog, path, name)",
                "functions_for": "(catalog, path, schema, name, size)"},
    "calls": {"fits": "(catalog, number, given)", "beats": "(catalog, one, other, given)",
              "best_function": "(catalog, path, schema, name, given)"},
    "bindings": {"binding_of": "(catalog, statement, path, role)", "is_binding": "(catalog, statement, path, role, thing)",
                 "refusal": "(catalog, statement, path, role)"},
    "plans": {"plan_of": "(catalog, binding)", "is_plan": "(catalog, thing)"},
    "watch": {"watch_of": "(catalog, statement, path, role)", "is_entry": "(thing)", "holds": "(catalog, entry)"},
    "entries": {"breaking_deed": "(catalog, statement, path, role, entry)", "is_enough": "(catalog, statement, path, role, entries)",
                "parting_deed": "(catalog, statement, path, role, entries)", "is_parting": "(catalog, statement, path, role, entries, thing)"},
    "ways": {"mattering": "(catalog, statement)", "path_classes": "(catalog, statement, role)"},
    "cases": {"cases_of": "(catalog, plan, by=None)"},
    "likeness": {"tells_once": "(catalog, plan, by=None)", "alike": "(catalog, one, two, by=None)"},
    "leaning": {"parts_of": "(plan)", "without_part": "(plan, part)", "needless_parts": "(catalog, plan, by=None)",
                "lean_plan": "(catalog, plan)"},
    "data": {"is_data": "(catalog, thing)", "answers_to": "(catalog, plan, data, *, flat=False)"},
    "papers": {"paper_for": "(catalog, one, two)", "is_paper": "(catalog, one, two, thing)"},
    "least": {"parting_data": "(catalog, one, two)", "fewest_rows": "(catalog, one, two)", "is_parting_data": "(catalog, one, two, thing)"},
    "legs": {"legs_of": "(catalog, one, two)", "ends_of": "(catalog, one, two)", "are_legs": "(catalog, one, two, thing)",
             "are_ends": "(catalog, one, two, thing)", "one_leg": "(catalog, one, two)"},
    "kept": {"word_for": "(catalog, statement, path, role, binding, plan)", "words_behind": "(catalog, statement, path, role, deeds)"},
    "records": {"is_record": "(catalog, thing)", "replayed": "(catalog, record)"},
    "deedtexts": {"write_deed": "(deed)", "read_deed": "(text)", "write_entry": "(entry)"},
}
CLASSES = {
    ("catalogs", "Catalog"): {
        "__init__": "(self, types, casts=())",
        "__eq__": "(self, other)",
        "thing_of": "(self, number)",
        "standing_at": "(self, schema, name)",
        "function_at": "(self, schema, name, types)",
        "column_of": "(self, table, name)",
        "facts_of": "(self, table)",
        "has_right": "(self, role, number)",
        "rule_for": "(self, role, number)",
        "numbered_from": "(self, number)",
    },
    ("caches", "Cache"): {
        "__init__": "(self, catalog)",
        "enter": "(self, name, path, role)",
        "leave": "(self, name)",
        "perform": "(self, name, deed)",
        "begin": "(self, name)",
        "commit": "(self, name)",
        "revert": "(self, name)",
        "ask": "(self, name, statement)",
        "barred": "(self, name, statement)",
        "catalog_for": "(self, name)",
        "copy": "(self)",
    },
    ("records", "Recorder"): {"__init__": "(self, catalog)"},
    ("shell", "Shell"): {"__init__": "(self)", "run": "(self, line)"},
}
PROPERTIES = {
    ("catalogs", "Catalog"): ("types", "casts", "next_number", "all_numbers"),
    ("caches", "Cache"): ("shared", "sessions", "bound_anew", "used_again", "plans_kept"),
    ("records", "Recorder"): ("recorded",),
    ("shell", "Shell"): (),
}


def defined_in(module):
    """Return the names of the functions and classes that a file itself defines."""
    with open(os.path.join(FOLDER, module + ".py"), encoding="utf-8") as file:
        tree = ast.parse(file.read())
    return [node.name for node in tree.body if isinstance(node, (ast.FunctionDef, ast.ClassDef))]


class InterfaceTest(unittest.TestCase):
    def test_functions(self):
        for module, functions in FUNCTIONS.items():
            there = importlib.import_module("boundonce." + module)
            for name, parameters in functions.items():
                self.assertIn(name, defined_in(module))
                self.assertEqual(str(inspect.signature(getattr(there, name))), parameters, name)

    def test_classes(self):
        for (module, name), methods in CLASSES.items():
            one = getattr(importlib.import_module("boundonce." + module), name)
            self.assertIn(name, defined_in(module))
            for method, parameters in methods.items():
                self.assertEqual(str(inspect.signature(vars(one)[method])), parameters, method)
            for word in PROPERTIES[module, name]:
                self.assertIsInstance(vars(one)[word], property, word)

    def test_properties_are_not_set(self):
        catalog = Catalog(("text",))
        for one, words in [(catalog, PROPERTIES["catalogs", "Catalog"]), (Recorder(catalog), PROPERTIES["caches", "Cache"] + ("recorded",))]:
            for word in words:
                with self.assertRaises(AttributeError):
                    setattr(one, word, 1)

    def test_a_recorder_is_a_cache(self):
        self.assertTrue(issubclass(Recorder, Cache))
