"""Papers that show that a gift is not right."""

from ownrights.exchangepapers import harm_of


def gift_paper(store, old, new, heir_old, heir_new):
    """A gift paper for the giver's and the heir's rights, or None if there is none."""
    # A gift is an exchange between the giver and the heir.
    harm = harm_of(store, (old, heir_old), (new, heir_new))
    return None if harm is None else (*harm[1], harm[0])
