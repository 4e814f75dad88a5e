"""DOC.md, "The interface": what stands in which module, and its parameters."""

import importlib
import inspect
import unittest

FUNCTIONS = {
    "adding": {"added": "(one, *others)", "zero_sum": "(many)"},
    "balls": {"ball": "(store, hand, n)", "sure_number": "(store, right, done, hand, most)"},
    "conditions": {
        "is_count": "(thing)", "is_condition": "(thing)", "parts_of": "(expression)", "lets_rule": "(items, thing)",
    },
    "deeds": {"deeds_of": "(store, hand)", "sum_of": "(store, key)", "all_keys": "(store)"},
    "eventreadings": {"read_event": "(text)", "read_log": "(lines)"},
    "eventtexts": {"event_line": "(event)", "log_lines": "(log)"},
    "kinds": {
        "is_integer": "(thing)", "is_number": "(thing)", "is_name": "(thing)", "is_sum": "(thing, many)",
        "is_sums": "(thing, many)",
    },
    "pairing": {"greatest_pairs": "(target, one, other)"},
    "storechecker": {"lets_store": "(thing)"},
    "storereadings": {
        "expression_read": "(text, *, line=0, field=0)", "sum_read": "(text, *, line=0, field=0)",
        "sums_read": "(text, *, line=0, field=0)", "store_read": "(text, *, line=0)",
    },
    "storetexts": {
        "expression_text": "(expression)", "sum_text": "(one)", "sums_text": "(sums)", "store_text": "(store)",
    },
    "values": {"value_in": "(items, state, count)", "holds_in": "(items, state, condition)"},
}
CLASSES = {
    "sums": {
        "Sums": ["__init__", "__len__", "__contains__", "__eq__", "__add__", "__or__", "__and__", "__sub__", "form",
                 "within", "shifted", "rest_in", "worth_in"],
    },
}


class InterfaceTest(unittest.TestCase):
    def test_functions(self):
        for module, functions in FUNCTIONS.items():
            for name, parameters in functions.items():
                with self.subTest(module=module, name=name):
                    found = getattr(importlib.import_module(f"ownrights.{module}"), name)
                    self.assertEqual(str(inspect.signature(found)), parameters)
                    self.assertEqual(found.__module__, f"ownrights.{module}")

    def test_classes(self):
        for module, classes in CLASSES.items():
            for name, methods in classes.items():
                found = getattr(importlib.import_module(f"ownrights.{module}"), name)
                self.assertEqual(found.__module__, f"ownrights.{module}")
                for method in methods:
                    with self.subTest(name=name, method=method):
                        self.assertIn(method, vars(found))


if __name__ == "__main__":
    unittest.main()
