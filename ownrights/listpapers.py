"""Papers that show how few meetings a list of deeds needs."""

from ownrights.goods import good_sums, good_table
from ownrights.lists import fewest_meetings, states_in_turn, sums_in_turn
from ownrights.rests import as_set, choice_outside


def _choice(store, state, piece):
    """For each hand how many deeds of a piece it has done if the whole is not good then."""
    rows = sums_in_turn(store, piece)
    choice = choice_outside([as_set(sums) for sums in rows], good_sums(store, state))
    return tuple([sums.index(one) for sums, one in zip(rows, choice)])


def meetings_paper(store, start, deeds):
    """A meetings paper for a list; UnknownDeed for its first element that is no key."""
    states = states_in_turn(store, start, deeds)
    good = good_table(store)
    for many, state in enumerate(states):
        if state not in good:
            return ("never", many)
    cuts = fewest_meetings(store, start, deeds)
    begins = (0, *cuts)
    # Each cut is as late as possible: the piece before it with the first deed behind it cannot be done unasked.
    choices = [_choice(store, states[begin], deeds[begin:cut + 1]) for begin, cut in zip(begins, cuts)]
    return ("cuts", cuts, tuple(choices))
