"""Whether any value is a run paper."""

from ownrights.adding import added, zero_sum
from ownrights.deeds import check_keys, hand_names
from ownrights.errors import InvalidPaper
from ownrights.goods import good_table, led
from ownrights.kinds import is_integer_rows, is_pair, is_right, is_tuple_of
from ownrights.rests import choice_outside


def _is_text(thing):
    """Whether any value is a string."""
    return isinstance(thing, str)


def _is_run(thing):
    """Whether any value is a tuple of strings."""
    return is_tuple_of(thing, _is_text)


def _has_shape(thing):
    """Whether any value has the shape of a run paper."""
    if not is_pair(thing):
        return False
    if thing[0] == "good":
        return is_tuple_of(thing[1], is_integer_rows)
    return thing[0] == "bad" and is_tuple_of(thing[1], _is_run)


def _leaving(good, state, right, steps):
    """The first pair (index of a sum, index of a deed) that leads out of a right, the state being good, or None.

    steps has the index and the sum of each deed; good has the good states as its keys.
    """
    for at, one in enumerate(right):
        for place, step in steps:
            there = added(one, step)
            if added(state, there) in good and there not in right:
                return (at, place)
    return None


def _check_good(store, good, state, keys, family):
    """Raise InvalidPaper unless a tuple is a safe family that no hand leaves by its deeds among keys."""
    zero = zero_sum(len(state))
    for at, (hand, deeds) in enumerate(store[2]):
        right = family[at]
        if not is_right(right, len(state)) or zero not in right:
            raise InvalidPaper("right", at)
        steps = [(place, step) for place, (deed, step) in enumerate(deeds) if (hand, deed) in keys]
        leaving = _leaving(good, state, right, steps)
        if leaving is not None:
            raise InvalidPaper("leaves", (at, *leaving))
    choice = choice_outside(((state,), *family), good)
    if choice is not None:
        raise InvalidPaper("unsafe", tuple([right.index(one) for right, one in zip(family, choice[1:])]))


def _check_run(store, good, state, keys, at, hand, run):
    """Raise InvalidPaper unless a hand can do the deeds of a run; at tells which one the hand is."""
    own = state
    for place, deed in enumerate(run):
        if (hand, deed) not in keys:
            raise InvalidPaper("deed", (at, place))
        own = led(store, own, (hand, deed))
        if own not in good:
            raise InvalidPaper("step", (at, place))


def _check_bad(store, good, state, keys, runs):
    """Raise InvalidPaper unless the hands can do the runs, and the whole is not good behind them."""
    hands = hand_names(store)
    for at, (hand, run) in enumerate(zip(hands, runs)):
        _check_run(store, good, state, keys, at, hand, run)
    done = [(hand, deed) for hand, run in zip(hands, runs) for deed in run]
    if led(store, state, *done) in good:
        raise InvalidPaper("whole", -1)


def lets_runs(store, state, keys, thing):
    """Whether any value, a run paper, tells that hands may go apart; InvalidPaper for the first thing that is wrong.

    UnknownDeed for the first of keys that is none.
    """
    check_keys(store, keys)
    if not _has_shape(thing):
        raise InvalidPaper("shape", -1)
    word, told = thing
    if len(told) != len(store[2]):
        raise InvalidPaper("many", -1)
    good = good_table(store)
    if word == "good":
        _check_good(store, good, state, keys, told)
        return True
    _check_bad(store, good, state, keys, told)
    return False
