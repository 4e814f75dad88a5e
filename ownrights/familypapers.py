"""Papers that show whether a family is safe, and whether it can grow."""

from ownrights.adding import subtracted
from ownrights.families import check_family
from ownrights.goods import good_sums
from ownrights.rests import beside, choice_outside, least_choice_sum, rest_beside, with_right


def candidates_of(family, at, target):
    """The candidates of a hand, ascending; target has the sums that lead from start to a good state."""
    least = least_choice_sum(beside(family, at))
    sums = [subtracted(one, least) for one in target]
    return [one for one in sums if one not in family[at]]


def _row(family, at, target):
    """The pairs (candidate, choice) of a hand whose right is its rest."""
    candidates = candidates_of(family, at, target)
    return tuple([(one, choice_outside(with_right(family, at, (one,)), target)) for one in candidates])


def family_paper(store, start, family):
    """A family paper of a family at a start."""
    check_family(store, family)
    target = good_sums(store, start)
    choice = choice_outside(family, target)
    if choice is not None:
        return ("unsafe", choice)
    for at, right in enumerate(family):
        more = [one for one in rest_beside(family, at, target) if one not in right]
        if more:
            return ("grows", at, more[0])
    return ("greatest", tuple([_row(family, at, target) for at in range(len(family))]))
