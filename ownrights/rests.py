"""Sets of sums, rights and choices: how they are made, added, and what their rest in a target is."""

from ownrights.adding import added, subtracted, zero_sum
from ownrights.kinds import is_integers, is_tuple


def as_set(sums):
    """The set of some sums in any order, possibly repeated."""
    return tuple(sorted(set(sums)))


def all_in(sums, target):
    """Whether all of some sums are in the target."""
    held = set(target)
    return all([one in held for one in sums])


def all_added(ones, others):
    """The set of all sums of one sum of each of both."""
    return as_set([added(one, other) for one in ones for other in others])


def rest_of_sums(sums, target):
    """The set of all sums that lead into the target with each of some sums, of which there is at least one."""
    held = set(target)
    # A sum of the rest leads into the target with the first sum, so there is no other candidate.
    candidates = [subtracted(one, sums[0]) for one in target]
    return as_set([one for one in candidates if all([added(one, other) in held for other in sums])])


def sums_of_rights(rights):
    """The set of all sums of one sum of each of some rights, of which there is at least one."""
    sums = rights[0]
    for right in rights[1:]:
        sums = all_added(sums, right)
    return sums


def least_choice_sum(rights):
    """The sum of the least sum of each of some rights, of which there is at least one."""
    leasts = [right[0] for right in rights]
    return added(*leasts)


def with_right(rights, at, right):
    """The tuple of some rights with another one at a place."""
    return (*rights[:at], right, *rights[at + 1:])


def beside(rights, at):
    """The tuple of some rights with the right of the sum of zeros alone at a place."""
    return with_right(rights, at, (zero_sum(len(rights[at][0])),))


def rest_beside(rights, at, target):
    """The rest of the right at a place beside the other rights in a target."""
    return rest_of_sums(sums_of_rights(beside(rights, at)), target)


def grown_rights(rights, target, first):
    """The rights, each replaced by its rest in a target: first those at the places first, then the others in order."""
    grown = tuple(rights)
    others = [place for place in range(len(grown)) if place not in first]
    for at in [*first, *others]:
        grown = with_right(grown, at, rest_beside(grown, at, target))
    return grown


def is_choice(rights, thing):
    """Whether any value is a tuple with one sum of each of some rights."""
    if not is_tuple(thing, len(rights)):
        return False
    # The kind is looked at first, because True equals 1 for Python.
    return all([is_integers(one) and one in right for one, right in zip(thing, rights)])


def _choices(rights):
    """A dict with the sums of the rights, at least one, as its keys, and a choice for each of them."""
    found = {zero_sum(len(rights[0][0])): ()}
    for right in rights:
        further = {}
        for total, choice in list(found.items()):
            for one in right:
                further.setdefault(added(total, one), (*choice, one))
        found = further
    return found


def choice_outside(rights, target):
    """A choice of some rights, at least one, whose sums, added, are not in a target, or None if there is none."""
    held = set(target)
    for total, choice in _choices(rights).items():
        if total not in held:
            return choice
    return None
