"""Whether any value is an exchange paper."""

from ownrights.adding import added
from ownrights.errors import InvalidPaper
from ownrights.exchangepapers import candidates_of
from ownrights.exchanges import check_exchange
from ownrights.goods import good_states
from ownrights.kinds import is_pair, is_sum, is_tuple, is_tuple_of
from ownrights.rests import all_added, all_in, is_choice, sums_of_rights


def _has_shape(thing):
    """Whether any value has the shape of an exchange paper."""
    if is_tuple(thing, 3) and thing[0] == "harms":
        return isinstance(thing[2], tuple)
    return is_pair(thing) and thing[0] == "keeps" and is_tuple_of(thing[1], is_pair)


def _check_harms(old, new, target, one, choice):
    """Raise InvalidPaper unless any value is one of the surroundings that any tuple, a choice of new, harms."""
    if not is_sum(one, len(old[0][0])) or not all_in(all_added((one,), sums_of_rights(old)), target):
        raise InvalidPaper("sum", -1)
    if not is_choice(new, choice):
        raise InvalidPaper("choice", -1)
    if added(one, *choice) in target:
        raise InvalidPaper("good", -1)


def _check_keeps(old, new, target, rows):
    """Raise InvalidPaper unless a tuple of pairs shows that no candidate is one of the surroundings."""
    candidates = candidates_of(old, new, target)
    if len(rows) != len(candidates):
        raise InvalidPaper("many", -1)
    for place, (one, choice) in enumerate(rows):
        candidate = candidates[place]
        if not is_sum(one, len(candidate)) or one != candidate:
            raise InvalidPaper("sum", place)
        if not is_choice(old, choice):
            raise InvalidPaper("choice", place)
        if added(one, *choice) in target:
            raise InvalidPaper("good", place)


def lets_exchange(store, old, new, thing):
    """Whether any value, an exchange paper, is one that keeps; InvalidPaper for the first thing that is wrong."""
    check_exchange(store, old, new)
    if not _has_shape(thing):
        raise InvalidPaper("shape", -1)
    target = list(good_states(store))
    if thing[0] == "harms":
        _check_harms(old, new, target, thing[1], thing[2])
        return False
    _check_keeps(old, new, target, thing[1])
    return True
