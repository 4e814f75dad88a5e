"""Sets of sums: how they are made, added, and what their rest in a target is."""

from ownrights.adding import added, subtracted


def as_set(sums):
    """The set of some sums in any order, possibly repeated."""
    return tuple(sorted(set(sums)))


def all_added(ones, others):
    """The set of all sums of one sum of each of both."""
    return as_set([added(one, other) for one in ones for other in others])


def rest_of_sums(sums, target):
    """The set of all sums that lead into the target with each of some sums, of which there is at least one."""
    held = set(target)
    # A sum of the rest leads into the target with the first sum, so there is no other candidate.
    candidates = [subtracted(one, sums[0]) for one in target]
    return as_set([one for one in candidates if all([added(one, other) in held for other in sums])])
