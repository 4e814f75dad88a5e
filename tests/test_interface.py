"""DOC.md, "The interface": what stands in which module, and its parameters."""

import importlib
import inspect
import unittest

FUNCTIONS = {
    "apart": {
        "comes_to": "(store, state, hand, keys)", "whole": "(store, state, runs)",
        "may_go_apart": "(store, state, keys)", "states_apart": "(store, keys)", "fewest_asked_at": "(store, state)",
        "shortest_harm": "(store, state, keys)",
    },
    "askedchecker": {"lets_asked": "(store, thing)"},
    "askedpapers": {"asked_paper": "(store)"},
    "asking": {
        "least_groups": "(store, start, family, sums, key)",
        "group_rights": "(store, start, family, sums, group, *, key=None)",
    },
    "askpapers": {"groups_paper": "(store, start, family, sums, key)"},
    "adding": {"added": "(one, *others)", "zero_sum": "(many)"},
    "balls": {"ball": "(store, hand, n)", "sure_number": "(store, right, done, hand, most)"},
    "clashing": {
        "clash_of": "(store, one, other)", "clashes": "(store)", "free_sets": "(store)", "fewest_asked": "(store)",
    },
    "conditions": {
        "is_count": "(thing)", "is_condition": "(thing)", "parts_of": "(expression)", "lets_rule": "(items, thing)",
    },
    "deeds": {"deeds_of": "(store, hand)", "sum_of": "(store, key)", "all_keys": "(store)"},
    "eventreadings": {"read_event": "(text)", "read_log": "(lines)"},
    "eventtexts": {"event_line": "(event)", "log_lines": "(log)"},
    "exchangechecker": {"lets_exchange": "(store, old, new, thing)"},
    "exchangepapers": {"exchange_paper": "(store, old, new)"},
    "exchanges": {
        "surroundings": "(store, old)", "worth": "(store, old)", "may_exchange": "(store, old, new)",
        "grown_exchange": "(store, old, new, *order)",
    },
    "fairness": {
        "sure_tuples": "(store, start, most)", "greatest_tuples": "(store, start, most)", "fairest": "(store, start, most)",
    },
    "families": {
        "is_safe": "(store, start, family)", "whole_states": "(store, start, family)",
        "rest_of": "(store, start, family, hand)", "is_greatest": "(store, start, family)",
        "grown": "(store, start, family, *hands)",
    },
    "familychecker": {"lets_family": "(store, start, family, thing)"},
    "familypapers": {"family_paper": "(store, start, family)"},
    "giftpapers": {"gift_paper": "(store, old, new, heir_old, heir_new)"},
    "goods": {
        "is_good": "(store, thing)", "good_states": "(store)", "led": "(store, state, *keys)",
        "moves": "(store, state, hand)",
    },
    "kinds": {
        "is_integer": "(thing)", "is_number": "(thing)", "is_name": "(thing)", "is_sum": "(thing, many)",
        "is_sums": "(thing, many)",
    },
    "pairing": {"greatest_pairs": "(target, one, other)"},
    "storechecker": {"lets_store": "(thing)"},
    "storereadings": {
        "expression_read": "(text, *, line=0, field=0)", "sum_read": "(text, *, line=0, field=0)",
        "sums_read": "(text, *, line=0, field=0)", "store_read": "(text, *, line=0)",
    },
    "storetexts": {
        "expression_text": "(expression)", "sum_text": "(one)", "sums_text": "(sums)", "store_text": "(store)",
    },
    "values": {"value_in": "(items, state, count)", "holds_in": "(items, state, condition)"},
}
CLASSES = {
    "sums": {
        "Sums": ["__init__", "__len__", "__contains__", "__eq__", "__add__", "__or__", "__and__", "__sub__", "form",
                 "within", "shifted", "rest_in", "worth_in"],
    },
}


class InterfaceTest(unittest.TestCase):
    def test_functions(self):
        for module, functions in FUNCTIONS.items():
            for name, parameters in functions.items():
                with self.subTest(module=module, name=name):
                    found = getattr(importlib.import_module(f"ownrights.{module}"), name)
                    self.assertEqual(str(inspect.signature(found)), parameters)
                    self.assertEqual(found.__module__, f"ownrights.{module}")

    def test_classes(self):
        for module, classes in CLASSES.items():
            for name, methods in classes.items():
                found = getattr(importlib.import_module(f"ownrights.{module}"), name)
                self.assertEqual(found.__module__, f"ownrights.{module}")
                for method in methods:
                    with self.subTest(name=name, method=method):
                        self.assertIn(method, vars(found))


if __name__ == "__main__":
    unittest.main()
