"""Whether any value is a family paper."""

from ownrights.adding import added
from ownrights.errors import InvalidPaper
from ownrights.families import is_safe
from ownrights.familypapers import candidates_of
from ownrights.goods import good_sums
from ownrights.kinds import is_number, is_pair, is_sum, is_tuple, is_tuple_of
from ownrights.rests import all_in, is_choice, sums_of_rights, with_right


def _is_row(thing):
    """Whether any value is a tuple of pairs."""
    return is_tuple_of(thing, is_pair)


def _has_shape(thing):
    """Whether any value has the shape of a family paper."""
    if is_pair(thing) and thing[0] == "unsafe":
        return isinstance(thing[1], tuple)
    if is_tuple(thing, 3) and thing[0] == "grows":
        return is_number(thing[1])
    return is_pair(thing) and thing[0] == "greatest" and is_tuple_of(thing[1], _is_row)


def _check_unsafe(family, target, choice):
    """Raise InvalidPaper unless any tuple is a choice whose sums, added, are not in the target."""
    if not is_choice(family, choice):
        raise InvalidPaper("choice", -1)
    if added(*choice) in target:
        raise InvalidPaper("good", -1)


def _check_grows(family, target, at, one):
    """Raise InvalidPaper unless any value is in the rest of the hand with any number, and not in its right."""
    if at >= len(family):
        raise InvalidPaper("hand", -1)
    if not is_sum(one, len(family[at][0])) or one in family[at]:
        raise InvalidPaper("sum", -1)
    if not all_in(sums_of_rights(with_right(family, at, (one,))), target):
        raise InvalidPaper("bad", -1)


def _check_row(family, target, at, row):
    """Raise InvalidPaper unless a row of pairs shows that no candidate of a hand is in its rest."""
    candidates = candidates_of(family, at, target)
    if len(row) != len(candidates):
        raise InvalidPaper("many", at)
    for place, (one, choice) in enumerate(row):
        candidate = candidates[place]
        if not is_sum(one, len(candidate)) or one != candidate:
            raise InvalidPaper("sum", (at, place))
        if not is_choice(with_right(family, at, (candidate,)), choice):
            raise InvalidPaper("choice", (at, place))
        if added(*choice) in target:
            raise InvalidPaper("good", (at, place))


def _check_greatest(family, target, rows):
    """Raise InvalidPaper unless rows of pairs show that no right can grow."""
    if len(rows) != len(family):
        raise InvalidPaper("many", -1)
    for at, row in enumerate(rows):
        _check_row(family, target, at, row)


def lets_family(store, start, family, thing):
    """The first element of any value as a family paper; InvalidPaper for the first thing that is wrong with it."""
    safe = is_safe(store, start, family)
    if not _has_shape(thing):
        raise InvalidPaper("shape", -1)
    word = thing[0]
    target = good_sums(store, start)
    if word == "unsafe":
        _check_unsafe(family, target, thing[1])
    elif not safe:
        raise InvalidPaper("unsafe", -1)
    elif word == "grows":
        _check_grows(family, target, thing[1], thing[2])
    else:
        _check_greatest(family, target, thing[1])
    return word
