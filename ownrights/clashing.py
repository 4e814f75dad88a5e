"""Deeds of different hands that clash, and which of them have to be asked for."""

from ownrights.adding import added
from ownrights.deeds import all_keys, sum_of
from ownrights.goods import good_table


def clash_in(good, state, one, other):
    """Whether deeds with the sums one and other clash in any sum; good has the good states as its keys."""
    if state not in good or added(state, one) not in good or added(state, other) not in good:
        return False
    return added(state, one, other) not in good


def _first_clash(good, one, other):
    """The least state in which deeds with these sums clash, or None."""
    for state in good:
        if clash_in(good, state, one, other):
            return state
    return None


def clash_of(store, one, other):
    """The least state in which the deeds with these keys clash, or None; UnknownDeed for the first that is no key."""
    first = sum_of(store, one)
    second = sum_of(store, other)
    return None if one[0] == other[0] else _first_clash(good_table(store), first, second)


def clash_rows(store):
    """All (one, other, state), ascending: keys that clash, one less than other, and the least state in which."""
    good = good_table(store)
    keys = all_keys(store)
    pairs = [(one, other) for one in keys for other in keys if one[0] < other[0]]
    rows = [(one, other, _first_clash(good, sum_of(store, one), sum_of(store, other))) for one, other in pairs]
    return [row for row in rows if row[2] is not None]


def clashes(store):
    """All pairs (one, other) of keys that clash, one less than other, ascending."""
    return tuple([(one, other) for one, other, state in clash_rows(store)])


def _joins(pairs, some, key):
    """Whether a key that is not among some keys clashes with none of them; pairs are the keys of a dict."""
    return key not in some and not any([(one, key) in pairs or (key, one) in pairs for one in some])


def free_sets(store):
    """All sets of keys, ascending, that do not clash and are contained in no greater one."""
    keys = all_keys(store)
    pairs = {pair: True for pair in clashes(store)}
    free = [()]
    for key in keys:
        free = free + [(*some, key) for some in free if _joins(pairs, some, key)]
    greatest = [some for some in free if not any([_joins(pairs, some, one) for one in keys])]
    return tuple(sorted(greatest))


def fewest_asked(store):
    """All sets of keys, ascending, with the fewest elements such that the other keys do not clash."""
    keys = all_keys(store)
    free = free_sets(store)
    most = max([len(some) for some in free])
    # The fewest are asked if the most are free.
    return tuple(sorted([tuple([key for key in keys if key not in some]) for some in free if len(some) == most]))
