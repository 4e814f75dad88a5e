"""All greatest pairs of sets of sums with a target."""

from ownrights.adding import added
from ownrights.rests import rest_of_sums


def _common_rests(target, widest, others):
    """All sets that are the part of widest that leads into the target with each sum of some of the others.

    They are the keys of the dict, widest itself, with none of the others, is the first of them.
    """
    found = {widest: True}
    for other in others:
        fitting = {one: True for one in widest if added(one, other) in target}
        for known in list(found):
            found[tuple([one for one in known if one in fitting])] = True
    return found


def greatest_pairs(target, one, other):
    """All pairs (x, y) of sets, x with all sums of one, y with all of other, each the rest of the other in target."""
    widest = rest_of_sums(other, target)
    if any([own not in widest for own in one]):
        return ()
    # y lies within the rest of one, so x is the part of widest that fits some sums of that rest.
    firsts = list(_common_rests(target, widest, rest_of_sums(one, target)))
    return tuple(sorted([(first, rest_of_sums(first, target)) for first in firsts]))
