"""What hands can do from a state at which they meet, each looking at its own copy only."""

from ownrights.adding import added, zero_sum
from ownrights.deeds import all_keys, check_keys, deed_rows, hand_names, sum_of
from ownrights.goods import good_table
from ownrights.rests import all_added


def _runs_of(store, good, state, hand, keys):
    """A dict with the sums to which a hand can come as its keys, and a shortest run to each of them."""
    steps = [(deed, one) for deed, one in deed_rows(store, hand) if (hand, deed) in keys]
    zero = zero_sum(len(state))
    runs = {zero: ()}
    latest = [zero]
    while latest:
        further = []
        for done in list(latest):
            for deed, one in steps:
                there = added(done, one)
                if there not in runs and added(state, there) in good:
                    runs[there] = (*runs[done], deed)
                    further.append(there)
        latest = further
    return runs


def comes_to(store, state, hand, keys):
    """The set of all sums to which a hand can come; UnknownHand, then UnknownDeed for the first value that is none."""
    deed_rows(store, hand)
    check_keys(store, keys)
    return tuple(sorted(_runs_of(store, good_table(store), state, hand, keys)))


def whole(store, state, runs):
    """The state behind all runs; UnknownDeed for the first element of a run that is no deed of its hand."""
    sums = [sum_of(store, (hand, deed)) for hand, run in zip(hand_names(store), runs) for deed in run]
    return added(state, *sums)


def _go_apart(store, good, state, keys):
    """Whether the whole is good, whatever the hands do with these keys; good has the good states as its keys."""
    states = (state,)
    for hand in hand_names(store):
        states = all_added(states, list(_runs_of(store, good, state, hand, keys)))
        # The other hands may do nothing, so these states can be the whole.
        if any([one not in good for one in states]):
            return False
    return True


def may_go_apart(store, state, keys):
    """Whether the whole is good, whatever the hands do; UnknownDeed for the first value that is no key."""
    check_keys(store, keys)
    return _go_apart(store, good_table(store), state, keys)


def states_apart(store, keys):
    """The set of all good states from which the hands may go apart; UnknownDeed for the first value that is no key."""
    check_keys(store, keys)
    good = good_table(store)
    return tuple([state for state in good if _go_apart(store, good, state, keys)])


def fewest_asked_at(store, state):
    """All sets of keys, ascending, with the fewest elements such that with the others the hands may go apart."""
    good = good_table(store)
    keys = all_keys(store)
    sets = [()]
    while sets:
        rows = [(asked, [key for key in keys if key not in asked]) for asked in sets]
        found = [asked for asked, others in rows if _go_apart(store, good, state, others)]
        if found:
            return tuple(found)
        sets = [(*asked, key) for asked in sets for key in keys if asked == () or asked[-1] < key]
    return ()


def _joined(found, runs):
    """A dict like found with the runs of one hand more: to each sum (number of deeds, runs), as few deeds as can be."""
    further = {}
    for total, (many, told) in list(found.items()):
        for done, run in runs.items():
            there = added(total, done)
            if there not in further or many + len(run) < further[there][0]:
                further[there] = (many + len(run), (*told, run))
    return further


def shortest_harm(store, state, keys):
    """Runs with the fewest deeds of all together behind which the whole is not good, or None.

    UnknownDeed for the first value that is no key.
    """
    check_keys(store, keys)
    good = good_table(store)
    found = {zero_sum(len(state)): (0, ())}
    for hand in hand_names(store):
        found = _joined(found, _runs_of(store, good, state, hand, keys))
    harms = [row for total, row in found.items() if added(state, total) not in good]
    return min(harms)[1] if harms else None
