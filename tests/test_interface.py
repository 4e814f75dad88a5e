"""DOC.md, "The interface": what stands in which module, and its parameters."""

import importlib
import inspect
import unittest

FUNCTIONS = {
    "apart": {
        "comes_to": "(store, state, hand, keys)", "whole": "(store, state, runs)",
        "may_go_apart": "(store, state, keys)", "states_apart": "(store, keys)", "fewest_asked_at": "(store, state)",
        "shortest_harm": "(store, state, keys)",
    },
    "askchecker": {"lets_groups": "(store, start, family, sums, key, thing)"},
    "askedchecker": {"lets_asked": "(store, thing)"},
    "askedpapers": {"asked_paper": "(store)"},
    "asking": {
        "least_groups": "(store, start, family, sums, key)",
        "group_rights": "(store, start, family, sums, group, *, key=None)",
    },
    "askpapers": {"groups_paper": "(store, start, family, sums, key)"},
    "adding": {"added": "(one, *others)", "zero_sum": "(many)"},
    "balls": {"ball": "(store, hand, n)", "sure_number": "(store, right, done, hand, most)"},
    "clashing": {
        "clash_of": "(store, one, other)", "clashes": "(store)", "free_sets": "(store)", "fewest_asked": "(store)",
    },
    "conditions": {
        "is_count": "(thing)", "is_condition": "(thing)", "parts_of": "(expression)", "lets_rule": "(items, thing)",
    },
    "deeds": {"deeds_of": "(store, hand)", "sum_of": "(store, key)", "all_keys": "(store)"},
    "eventreadings": {"read_event": "(text)", "read_log": "(lines)"},
    "eventtexts": {"event_line": "(event)", "log_lines": "(log)"},
    "exchangechecker": {"lets_exchange": "(store, old, new, thing)"},
    "exchangepapers": {"exchange_paper": "(store, old, new)"},
    "exchanges": {
        "surroundings": "(store, old)", "worth": "(store, old)", "may_exchange": "(store, old, new)",
        "grown_exchange": "(store, old, new, *order)",
    },
    "fairness": {
        "sure_tuples": "(store, start, most)", "greatest_tuples": "(store, start, most)", "fairest": "(store, start, most)",
    },
    "families": {
        "is_safe": "(store, start, family)", "whole_states": "(store, start, family)",
        "rest_of": "(store, start, family, hand)", "is_greatest": "(store, start, family)",
        "grown": "(store, start, family, *hands)",
    },
    "familychecker": {"lets_family": "(store, start, family, thing)"},
    "familypapers": {"family_paper": "(store, start, family)"},
    "giftchecker": {"lets_gift": "(store, old, new, heir_old, heir_new, thing)"},
    "giftpapers": {"gift_paper": "(store, old, new, heir_old, heir_new)"},
    "giving": {
        "reach": "(store, right, done, hand)", "given_up": "(store, family, sums)",
        "may_give": "(store, old, new, heir_old, heir_new)", "greatest_gift": "(store, old, new, heir_old)",
    },
    "goods": {
        "is_good": "(store, thing)", "good_states": "(store)", "led": "(store, state, *keys)",
        "moves": "(store, state, hand)",
    },
    "kinds": {
        "is_integer": "(thing)", "is_number": "(thing)", "is_name": "(thing)", "is_sum": "(thing, many)",
        "is_sums": "(thing, many)",
    },
    "listchecker": {"lets_meetings": "(store, start, deeds, thing)"},
    "listpapers": {"meetings_paper": "(store, start, deeds)"},
    "lists": {
        "passed": "(store, deeds)", "can_do": "(store, start, deeds)", "fewest_meetings": "(store, start, deeds)",
    },
    "numberchecker": {"lets_numbers": "(store, start, numbers, thing)"},
    "numberpapers": {"numbers_paper": "(store, start, numbers)"},
    "pairing": {"greatest_pairs": "(target, one, other)"},
    "replaying": {"is_log": "(thing)", "replayed": "(log)"},
    "runchecker": {"lets_runs": "(store, state, keys, thing)"},
    "runpapers": {"run_paper": "(store, state, keys)"},
    "storechecker": {"lets_store": "(thing)"},
    "storereadings": {
        "expression_read": "(text, *, line=0, field=0)", "sum_read": "(text, *, line=0, field=0)",
        "sums_read": "(text, *, line=0, field=0)", "store_read": "(text, *, line=0)",
    },
    "storetexts": {
        "expression_text": "(expression)", "sum_text": "(one)", "sums_text": "(sums)", "store_text": "(store)",
    },
    "values": {"value_in": "(items, state, count)", "holds_in": "(items, state, condition)"},
}
TERM = {"form": None, "parts": "(self)", "__init__": "(self, expression)", "__len__": "(self)", "__eq__": "(self, other)",
        "__str__": "(self)", "__call__": "(self, items, state)"}
SIGN = "(self, other)"
# The methods with their parameters, and the properties with None.
CLASSES = {
    "desk": {"Desk": {"__init__": "(self)", "say": "(self, row)", "counts": "(self)"}},
    "services": {
        "Service": {
            "__init__": "(self, store, start, family)", "store": None, "start": None, "family": None, "sums": None, "whole": None,
            "changes": None, "letters": None, "do": "(self, hand, deed)", "ask": "(self, hand, deed)", "tell": "(self, hand)",
            "hear": "(self, hand, n)", "take": "(self, hand, n)", "meet": "(self, *hands)", "exchange": "(self, hands, rights)",
            "give": "(self, hand, heir, right, gift)", "give_up": "(self, hand, right)", "go": "(self, event)",
            "__call__": "(self, event)", "__getitem__": "(self, at)", "__contains__": "(self, x)", "copy_of": "(self, hand)",
            "__len__": "(self)", "__eq__": SIGN, "tried": "(self, *events)", "undo": "(self)",
            "do_all": "(self, *events, keep=False)", "counts": "(self)", "table": "(self)", "open_deeds": "(self)",
            "groups_for": "(self, hand, deed)", "room": "(self, hand)", "spare": "(self, hand)", "sure": "(self, hand, *, most=6)",
            "is_full": "(self)", "log": "(self)", "__str__": "(self)",
        },
    },
    "storeclasses": {
        "Store": {
            "__init__": "(self, items, hands, *rules)", "item_rows": None, "rule_rows": None, "hand_rows": None, "form": None,
            "__contains__": "(self, x)", "__len__": "(self)", "__iter__": "(self)", "__eq__": SIGN, "__str__": "(self)",
            "with_rule": "(self, rule)", "without_deed": "(self, key)",
        },
    },
    "sums": {
        "Sums": {
            "__init__": "(self, sums)", "__len__": "(self)", "__contains__": "(self, x)", "__eq__": SIGN, "__add__": SIGN,
            "__or__": SIGN, "__and__": SIGN, "__sub__": SIGN, "form": None, "within": SIGN, "shifted": "(self, one)",
            "rest_in": "(self, target)", "worth_in": "(self, target)",
        },
    },
    "terms": {
        "Count": {
            **TERM, "__add__": SIGN, "__radd__": SIGN, "__sub__": SIGN, "__rsub__": SIGN, "__mul__": SIGN, "__rmul__": SIGN,
            "less": SIGN, "equals": SIGN,
        },
        "Rule": {**TERM, "__and__": SIGN, "__or__": SIGN, "__invert__": "(self)"},
    },
}
# Static and class methods, as they are called off the class.
OFF_CLASSES = {("storeclasses", "Store", "parsed"): "(text)", ("terms", "Count", "item"): "(name)"}


class InterfaceTest(unittest.TestCase):
    def test_functions(self):
        for module, functions in FUNCTIONS.items():
            for name, parameters in functions.items():
                with self.subTest(module=module, name=name):
                    found = getattr(importlib.import_module(f"ownrights.{module}"), name)
                    self.assertEqual(str(inspect.signature(found)), parameters)
                    self.assertEqual(found.__module__, f"ownrights.{module}")

    def test_classes(self):
        for module, classes in CLASSES.items():
            for name, methods in classes.items():
                found = getattr(importlib.import_module(f"ownrights.{module}"), name)
                self.assertEqual(found.__module__, f"ownrights.{module}")
                for method, parameters in methods.items():
                    with self.subTest(name=name, method=method):
                        # It stands in the class itself, not in a base class.
                        value = vars(found)[method]
                        if parameters is None:
                            self.assertIsInstance(value, property)
                        else:
                            self.assertEqual(str(inspect.signature(value)), parameters)

    def test_static_and_class_methods(self):
        for (module, name, method), parameters in OFF_CLASSES.items():
            found = getattr(importlib.import_module(f"ownrights.{module}"), name)
            self.assertIn(method, vars(found))
            self.assertEqual(str(inspect.signature(getattr(found, method))), parameters)

    def test_class_values(self):
        services = importlib.import_module("ownrights.services")
        self.assertEqual(services.Service.MOST, 40)


if __name__ == "__main__":
    unittest.main()
