"""Whether any value is a meetings paper."""

from ownrights.adding import added
from ownrights.errors import InvalidPaper
from ownrights.goods import is_good
from ownrights.kinds import is_ascending, is_number, is_pair, is_tuple, is_tuple_of
from ownrights.lists import can_do, states_in_turn, sums_in_turn


def _is_numbers(thing):
    """Whether any value is a tuple of numbers."""
    return is_tuple_of(thing, is_number)


def _has_shape(thing):
    """Whether any value has the shape of a meetings paper."""
    if is_pair(thing) and thing[0] == "never":
        return is_number(thing[1])
    return is_tuple(thing, 3) and thing[0] == "cuts" and _is_numbers(thing[1]) and is_tuple_of(thing[2], _is_numbers)


def _check_never(store, states, many):
    """Raise InvalidPaper if there is no such number of first deeds, or the state behind them is good."""
    if many >= len(states):
        raise InvalidPaper("number", -1)
    if is_good(store, states[many]):
        raise InvalidPaper("good", -1)


def _check_cuts(cuts, many):
    """Raise InvalidPaper if some numbers are no cuts of a list of many deeds."""
    if not is_ascending(cuts) or any([cut == 0 or cut >= many for cut in cuts]):
        raise InvalidPaper("cuts", -1)


def _is_harm(store, state, piece, choice):
    """Whether a tuple of numbers tells how many deeds of a piece each hand does, and the whole is not good then."""
    rows = sums_in_turn(store, piece)
    if len(choice) != len(rows) or any([number >= len(sums) for number, sums in zip(choice, rows)]):
        return False
    done = [sums[number] for number, sums in zip(choice, rows)]
    return not is_good(store, added(state, *done))


def lets_meetings(store, start, deeds, thing):
    """How many meetings any value tells as a meetings paper, None for "never"; InvalidPaper for what is wrong first.

    UnknownDeed for the first element of the list that is no key.
    """
    states = states_in_turn(store, start, deeds)
    if not _has_shape(thing):
        raise InvalidPaper("shape", -1)
    if thing[0] == "never":
        _check_never(store, states, thing[1])
        return None
    _, cuts, choices = thing
    _check_cuts(cuts, len(deeds))
    if len(choices) != len(cuts):
        raise InvalidPaper("many", -1)
    begins = (0, *cuts)
    ends = (*cuts, len(deeds))
    for at, (begin, end) in enumerate(zip(begins, ends)):
        if not can_do(store, states[begin], deeds[begin:end]):
            raise InvalidPaper("piece", at)
    for at, (begin, cut, choice) in enumerate(zip(begins, cuts, choices)):
        if not _is_harm(store, states[begin], deeds[begin:cut + 1], choice):
            raise InvalidPaper("choice", at)
    return len(cuts)
