"""Stores as objects."""

from ownrights.deeds import check_keys, hand_names
from ownrights.storechecker import lets_store
from ownrights.storereadings import store_read
from ownrights.storetexts import store_text
from ownrights.terms import Rule


def _rule_form(rule):
    """The form of a Rule; any other value is its own."""
    return rule.form if isinstance(rule, Rule) else rule


class Store:
    """A store, that never changes."""

    def __init__(self, items, hands, *rules):
        form = (items, tuple([_rule_form(rule) for rule in rules]), hands)
        lets_store(form)
        self._form = form
        self._names = hand_names(form)

    @classmethod
    def parsed(cls, text):
        """The Store that any string writes; InvalidText, then the errors of the constructor."""
        items, rules, hands = store_read(text)
        return cls(items, hands, *rules)

    @property
    def item_rows(self):
        """The items."""
        return self._form[0]

    @property
    def rule_rows(self):
        """The rules."""
        return self._form[1]

    @property
    def hand_rows(self):
        """The hands with their deeds."""
        return self._form[2]

    @property
    def form(self):
        """The store."""
        return self._form

    def __contains__(self, x):
        return x in self._names

    def __len__(self):
        return len(self._names)

    def __iter__(self):
        return iter(self._names)

    def __eq__(self, other):
        return isinstance(other, Store) and self._form == other._form

    def __str__(self):
        return str(store_text(self._form))

    def with_rule(self, rule):
        """The Store with one rule more, a Rule or any value, as the last one; the errors of the constructor."""
        items, rules, hands = self._form
        return Store(items, hands, *rules, rule)

    def without_deed(self, key):
        """The Store without the deed with this key; UnknownDeed for any value that is the key of none."""
        items, rules, hands = self._form
        check_keys(self._form, (key,))
        others = [(hand, tuple([row for row in deeds if (hand, row[0]) != key])) for hand, deeds in hands]
        return Store(items, tuple(others), *rules)
