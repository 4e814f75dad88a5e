"""Whether any value is a numbers paper."""

from ownrights.balls import ball
from ownrights.deeds import deeds_of, hand_names
from ownrights.errors import InvalidPaper
from ownrights.families import is_safe
from ownrights.goods import is_good, led
from ownrights.kinds import is_integer_rows, is_name, is_pair, is_right, is_tuple, is_tuple_of
from ownrights.rests import all_in


def _is_list(thing):
    """Whether any value is a tuple of names."""
    return is_tuple_of(thing, is_name)


def _has_shape(thing):
    """Whether any value has the shape of a numbers paper."""
    if not is_pair(thing):
        return False
    if thing[0] == "sure":
        return is_tuple_of(thing[1], is_integer_rows)
    return thing[0] == "bad" and is_tuple_of(thing[1], _is_list)


def _check_sure(store, start, numbers, family):
    """Raise InvalidPaper unless a tuple is a safe family whose rights contain the balls for these numbers."""
    many = len(store[0])
    if not is_tuple(family, len(store[2])) or not all([is_right(right, many) for right in family]):
        raise InvalidPaper("family", -1)
    for at, hand in enumerate(hand_names(store)):
        if not all_in(ball(store, hand, numbers[at]), family[at]):
            raise InvalidPaper("ball", at)
    if not is_safe(store, start, family):
        raise InvalidPaper("safe", -1)


def _check_bad(store, start, numbers, lists):
    """Raise InvalidPaper unless lists of names tell deeds, few enough of each hand, that lead to no good state."""
    hands = hand_names(store)
    if len(lists) != len(hands):
        raise InvalidPaper("many", -1)
    for at, hand in enumerate(hands):
        own = deeds_of(store, hand)
        for place, deed in enumerate(lists[at]):
            if deed not in own:
                raise InvalidPaper("deed", (at, place))
    for at, deeds in enumerate(lists):
        if len(deeds) > numbers[at]:
            raise InvalidPaper("number", at)
    keys = [(hand, deed) for hand, deeds in zip(hands, lists) for deed in deeds]
    if is_good(store, led(store, start, *keys)):
        raise InvalidPaper("good", -1)


def lets_numbers(store, start, numbers, thing):
    """Whether any value, a numbers paper, is one for sure numbers; InvalidPaper for the first thing that is wrong."""
    if not _has_shape(thing):
        raise InvalidPaper("shape", -1)
    word, told = thing
    if word == "sure":
        _check_sure(store, start, numbers, told)
        return True
    _check_bad(store, start, numbers, told)
    return False
