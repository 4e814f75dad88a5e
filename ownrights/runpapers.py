"""Papers that show whether hands may go apart with some deeds."""

from ownrights.apart import comes_to, shortest_harm
from ownrights.deeds import hand_names


def run_paper(store, state, keys):
    """A run paper for a good state and keys; UnknownDeed for the first value that is no key."""
    runs = shortest_harm(store, state, keys)
    if runs is not None:
        return ("bad", runs)
    return ("good", tuple([comes_to(store, state, hand, keys) for hand in hand_names(store)]))
