"""DOC.md [9], [21], [22], [25]: deeds that clash, and which of them have to be asked for."""

import unittest

from ownrights.clashing import clash_of, clashes, fewest_asked, free_sets
from ownrights.errors import UnknownDeed
from tests.direct import ALL_STORES, GRID, IDLE, QUIET, STORES, good, goods, keys_of, plus, step, subsets
from tests.helpers import ANYTHING, TILL, StrictTest


def clash_by_hand(store, one, other):
    """The least good state from which both deeds lead to good ones, but not together."""
    if one[0] == other[0]:
        return None
    for state in goods(store):
        x, y = step(store, one), step(store, other)
        if good(store, plus(state, x)) and good(store, plus(state, y)) and not good(store, plus(state, x, y)):
            return state
    return None


def pairs_by_hand(store):
    keys = keys_of(store)
    return [(one, other) for one in keys for other in keys if one < other and clash_by_hand(store, one, other)]


def is_free(pairs, keys):
    return not any(one in keys and other in keys for one, other in pairs)


class ClashTest(StrictTest):
    def test_example(self):
        self.assert_same([clash_of(TILL, ("bob", "take"), ("ann", "take")), clash_of(TILL, ("ann", "put"), ("bob", "take"))],
                         [(1,), None])
        self.assert_same(clashes(TILL), ((("ann", "take"), ("bob", "take")),))

    def test_against_a_look_at_all_states(self):
        seen = set()
        for store in ALL_STORES:
            for one in keys_of(store):
                for other in keys_of(store):
                    due = clash_by_hand(store, one, other)
                    seen.add(due)
                    self.assert_same(clash_of(store, one, other), due, (store, one, other))
            self.assert_same(clashes(store), tuple(pairs_by_hand(store)))
        self.assertGreater(len(seen), 9)

    def test_deeds_of_one_hand(self):
        # Together they lead out of the store, but a hand sees what it does.
        self.assert_same(clash_of(GRID, ("bob", "a"), ("bob", "a")), None)
        self.assert_same(clash_of(TILL, one=("ann", "take"), other=("ann", "take")), None)

    def test_a_deed_without_a_sum_clashes_with_none(self):
        self.assert_same([clash_of(QUIET, ("ann", "wait"), key) for key in keys_of(QUIET)], [None] * 5)

    def test_unknown_deeds(self):
        known = ("ann", "put")
        for value in ANYTHING + [("bob", "put"), "ann", ("ann",), ["ann", "put"]]:
            for one, other in ((value, known), (known, value), (value, "x"), (value, ("ann", "x")), (("bob", "take"), value)):
                with self.assertRaises(UnknownDeed) as caught:
                    clash_of(TILL, one, other)
                self.assertIs(caught.exception.deed, value)


class FreeTest(StrictTest):
    def test_example(self):
        self.assert_same(fewest_asked(TILL), ((("ann", "take"),), (("bob", "take"),)))
        self.assert_same(free_sets(TILL), ((("ann", "put"), ("ann", "take")), (("ann", "put"), ("bob", "take"))))

    def test_against_a_look_at_all_sets(self):
        for store in ALL_STORES:
            pairs = pairs_by_hand(store)
            keys = keys_of(store)
            free = [some for some in subsets(keys) if is_free(pairs, some)]
            due = tuple(sorted(some for some in free if not any(set(some) < set(other) for other in free)))
            self.assert_same(free_sets(store=store), due)
            rows = [some for some in subsets(keys) if is_free(pairs, set(keys) - set(some))]
            fewest = min(map(len, rows))
            self.assert_same(fewest_asked(store=store), tuple(sorted(some for some in rows if len(some) == fewest)))

    def test_no_deed_and_no_clash(self):
        self.assert_same([clashes(IDLE), free_sets(IDLE), fewest_asked(IDLE)], [(), ((),), ((),)])
        self.assert_same([clashes(QUIET), free_sets(QUIET), fewest_asked(QUIET)], [(), (tuple(keys_of(QUIET)),), ((),)])

    def test_the_fewest_are_asked_if_the_most_are_free(self):
        for store in STORES:
            keys = keys_of(store)
            most = max(len(some) for some in free_sets(store))
            due = [tuple(key for key in keys if key not in some) for some in free_sets(store) if len(some) == most]
            self.assert_same(list(fewest_asked(store)), sorted(due))

    def test_a_rule_more_can_make_and_end_a_clash(self):
        x = ("item", "coins")
        stores = [(TILL[0], (rule,), TILL[2]) for rule in (("not", ("=", x, 1)), ("<", x, 2))]
        self.assert_same(clash_of(stores[0], ("ann", "take"), ("bob", "take")), (3,))
        pair = (("ann", "put"), ("bob", "take"))
        self.assert_same(clash_of(stores[0], *pair), None)
        # Only 0, 2 and 4 are good: no deed leads from one to another.
        apart = (TILL[0], (("not", ("=", x, 1)), ("not", ("=", x, 3))), TILL[2])
        self.assert_same(clashes(apart), ())


if __name__ == "__main__":
    unittest.main()
