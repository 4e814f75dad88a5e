"""Papers that show whether hands can surely do numbers of deeds."""

from ownrights.adding import added, zero_sum
from ownrights.balls import ball
from ownrights.deeds import deed_rows, hand_names
from ownrights.goods import good_sums
from ownrights.rests import choice_outside


def _lists(store, hand, number):
    """A dict with the sums of at most so many deeds of a hand as its keys, and such deeds for each of them."""
    found = {zero_sum(len(store[0])): ()}
    for _ in range(number):
        further = {one: found[one] for one in found}
        for one, deeds in list(found.items()):
            for deed, step in deed_rows(store, hand):
                further.setdefault(added(one, step), (*deeds, deed))
        if len(further) == len(found):
            return found
        found = further
    return found


def numbers_paper(store, start, numbers):
    """A numbers paper for a tuple of numbers, one for each hand."""
    pairs = list(zip(hand_names(store), numbers))
    family = tuple([ball(store, hand, number) for hand, number in pairs])
    choice = choice_outside(family, good_sums(store, start))
    if choice is None:
        return ("sure", family)
    return ("bad", tuple([_lists(store, hand, number)[one] for (hand, number), one in zip(pairs, choice)]))
