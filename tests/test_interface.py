"""The names and arguments that the document lists, for all modules."""

import importlib
import inspect
import unittest

# A star before a name: by name only; two dots behind it: with a default value of None.
FUNCTIONS = {
    "tables": {"is_table": "value", "count_columns": "table"},
    "orders": {
        "is_order": "value", "turned": "order", "places_by": "table order", "sorted_by": "table order",
        "count_orders": "columns", "order_at": "columns number", "number_of": "columns order"},
    "programs": {"is_program": "value", "count_commands": "program"},
    "running": {"run": "table program", "run_places": "table program", "each_table": "table program"},
    "notation": {"format_program": "program", "parse_program": "text"},
    "normal": {"normal_form": "program", "each_order": "program"},
    "comparing": {"same": "program other", "difference": "program other"},
    "shortest": {"distance": "order other", "shortest": "program", "least_commands": "program"},
    "reach": {"extreme_places": "table", "order_for": "table places", "way_to": "table places"},
    "pipelines": {"assign": "pipeline *commands.. *limit.."},
    "worksheet": {"replay": "table log"},
    "checker": {"check": "claim paper"},
    "certificates": {"program_certificate": "program other", "way_certificate": "table places"},
}

METHODS = {
    ("pipelines", "Pipeline"): {
        "is_command": "value", "parse": "text", "run": "table", "each_table": "table", "describe": ""},
    ("pipelines", "CountedPipeline"): {"run": "table", "describe": ""},
    ("pipelines", "LimitedPipeline"): {"run": "table", "describe": ""},
    ("pipelines", "CountedLimitedPipeline"): {"run": "table", "describe": ""},
    ("worksheet", "Worksheet"): {
        "run_program": "program", "add": "record", "drop": "place", "set_value": "place column value",
        "do_all": "edits *watch..", "undo": "", "log": ""},
    ("console", "Console"): {"say": "line"},
}


def written(function, skip=0):
    found = []
    for part in list(inspect.signature(function).parameters.values())[skip:]:
        star = "*" if part.kind is part.KEYWORD_ONLY else ""
        found.append(star + part.name + (".." if part.default is None else ""))
    return " ".join(found)


class InterfaceTest(unittest.TestCase):
    def test_functions(self):
        for stem, functions in FUNCTIONS.items():
            module = importlib.import_module(f"sortcuts.{stem}")
            for name, parameters in functions.items():
                self.assertEqual(written(getattr(module, name)), parameters, (stem, name))

    def test_methods(self):
        for (stem, kind), methods in METHODS.items():
            listed = vars(getattr(importlib.import_module(f"sortcuts.{stem}"), kind))
            for name, parameters in methods.items():
                self.assertIn(name, listed, kind)
                method = listed[name]
                if isinstance(method, staticmethod):
                    self.assertEqual(written(method), parameters, (kind, name))
                else:
                    # The first parameter is the object, or the class.
                    self.assertEqual(written(getattr(method, "__func__", method), 1), parameters, (kind, name))


if __name__ == "__main__":
    unittest.main()
