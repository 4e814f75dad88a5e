"""Numbers and conditions as objects, made by signs."""

from ownrights.conditions import COUNT_WORDS, RULE_WORDS, first_wrong, item_names, parts_of
from ownrights.errors import UnfitRule
from ownrights.storetexts import expression_text
from ownrights.values import holds_in, value_in


def _check_form(expression, words, names):
    """Raise UnfitRule for the first wrong part of any value of the kind with these words; names as in first_wrong."""
    wrong = first_wrong(expression, words, names)
    if wrong is not None:
        raise UnfitRule(wrong)


def _form_of(thing):
    """The form of a Count; an integer is its own."""
    return thing.form if isinstance(thing, Count) else thing


class Count:
    """A number, that never changes."""

    def __init__(self, expression):
        _check_form(expression, COUNT_WORDS, None)
        self._form = expression

    @staticmethod
    def item(name):
        """The Count of what the item with this name has; UnfitRule for any value that is no name."""
        return Count(("item", name))

    @property
    def form(self):
        """The expression."""
        return self._form

    def parts(self):
        """A generator of the parts, a part before the parts in it."""
        for path, part in parts_of(self._form):
            yield part

    def __len__(self):
        return len(parts_of(self._form))

    def __eq__(self, other):
        return isinstance(other, Count) and self._form == other._form

    def __str__(self):
        return str(expression_text(self._form))

    def __call__(self, items, state):
        _check_form(self._form, COUNT_WORDS, item_names(items))
        return value_in(items, state, self._form)

    def __add__(self, other):
        return Count(("+", self._form, _form_of(other)))

    def __radd__(self, other):
        return Count(("+", _form_of(other), self._form))

    def __sub__(self, other):
        return Count(("-", self._form, _form_of(other)))

    def __rsub__(self, other):
        return Count(("-", _form_of(other), self._form))

    def __mul__(self, other):
        return Count(("*", self._form, _form_of(other)))

    def __rmul__(self, other):
        return Count(("*", _form_of(other), self._form))

    def less(self, other):
        """The Rule that this number is less than a Count or an integer."""
        return Rule(("<", self._form, _form_of(other)))

    def equals(self, other):
        """The Rule that this number is a Count or an integer."""
        return Rule(("=", self._form, _form_of(other)))


class Rule:
    """A condition, that never changes."""

    def __init__(self, expression):
        _check_form(expression, RULE_WORDS, None)
        self._form = expression

    @property
    def form(self):
        """The expression."""
        return self._form

    def parts(self):
        """A generator of the parts, a part before the parts in it."""
        for path, part in parts_of(self._form):
            yield part

    def __len__(self):
        return len(parts_of(self._form))

    def __eq__(self, other):
        return isinstance(other, Rule) and self._form == other._form

    def __str__(self):
        return str(expression_text(self._form))

    def __call__(self, items, state):
        _check_form(self._form, RULE_WORDS, item_names(items))
        return holds_in(items, state, self._form)

    def __and__(self, other):
        return Rule(("and", self._form, other.form))

    def __or__(self, other):
        return Rule(("or", self._form, other.form))

    def __invert__(self):
        return Rule(("not", self._form))
