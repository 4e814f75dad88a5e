"""The values of expressions in a state."""

from ownrights.conditions import item_names
from ownrights.kinds import is_integer


def value_in(items, state, count):
    """The value of a number in any sum for the items; it names only items."""
    if is_integer(count):
        return count
    word = count[0]
    if word == "item":
        return state[item_names(items).index(count[1])]
    one = value_in(items, state, count[1])
    other = value_in(items, state, count[2])
    if word == "+":
        return one + other
    if word == "-":
        return one - other
    return one * other


def holds_in(items, state, condition):
    """Whether a condition is true in any sum for the items; it names only items."""
    word = condition[0]
    if word == "not":
        return not holds_in(items, state, condition[1])
    if word == "and":
        return holds_in(items, state, condition[1]) and holds_in(items, state, condition[2])
    if word == "or":
        return holds_in(items, state, condition[1]) or holds_in(items, state, condition[2])
    one = value_in(items, state, condition[1])
    other = value_in(items, state, condition[2])
    return one == other if word == "=" else one < other
