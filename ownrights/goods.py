"""Good states, and where deeds lead."""

from ownrights.adding import added, subtracted
from ownrights.deeds import deed_rows, sum_of
from ownrights.kinds import is_sum
from ownrights.values import holds_in


def is_good(store, thing):
    """Whether any value is a good state."""
    items, rules, hands = store
    if not is_sum(thing, len(items)):
        return False
    if any([not low <= number <= high for number, (name, low, high) in zip(thing, items)]):
        return False
    return all([holds_in(items, thing, rule) for rule in rules])


def _state_behind(items, state):
    """The next state, ascending, in which each item has from low to high, or None behind the last one."""
    lows = [low for name, low, high in items]
    for at in range(len(items) - 1, -1, -1):
        if state[at] < items[at][2]:
            return (*state[:at], state[at] + 1, *lows[at + 1:])
    return None


def good_states(store):
    """A generator of all good states, ascending."""
    items = store[0]
    state = tuple([low for name, low, high in items])
    while state is not None:
        if is_good(store, state):
            yield state
        state = _state_behind(items, state)


def good_table(store):
    """A dict with all good states, ascending, as its keys."""
    return {state: True for state in good_states(store)}


def good_sums(store, start):
    """The set of all sums that lead from start to a good state."""
    return tuple([subtracted(state, start) for state in good_states(store)])


def led(store, state, *keys):
    """The state to which deeds lead from a state; UnknownDeed for the first value that is the key of none."""
    sums = [sum_of(store, key) for key in keys]
    return added(state, *sums)


def moves(store, state, hand):
    """The names of the deeds of a hand that lead from a state to a good one; UnknownHand for a value that is none."""
    return tuple([deed for deed, one in deed_rows(store, hand) if is_good(store, added(state, one))])
