"""Whether any value is an asked paper."""

from ownrights.clashing import clash_in, clashes
from ownrights.deeds import all_keys, sum_of
from ownrights.errors import InvalidPaper
from ownrights.goods import good_table
from ownrights.kinds import is_integers, is_pair, is_tuple, is_tuple_of

TREE_PARTS = 5


def _is_text_pair(thing):
    """Whether any value is a pair of strings."""
    return is_pair(thing) and isinstance(thing[0], str) and isinstance(thing[1], str)


def _is_tree(thing):
    """Whether any value has the shape of a tree."""
    waiting = [thing]
    while waiting:
        tree = waiting.pop()
        if tree is None:
            continue
        if not is_tuple(tree, TREE_PARTS):
            return False
        one, other, state, first, second = tree
        if not _is_text_pair(one) or not _is_text_pair(other) or not is_integers(state):
            return False
        waiting.extend([first, second])
    return True


def _check_asked(store, asked):
    """Raise InvalidPaper if asked is no set of keys, or if a pair without any of them clashes."""
    keys = all_keys(store)
    for at, key in enumerate(asked):
        if key not in keys or (at > 0 and asked[at - 1] >= key):
            raise InvalidPaper("asked", at)
    for one, other in clashes(store):
        if one not in asked and other not in asked:
            raise InvalidPaper("clash", (one, other))


def _are_free_keys(keys, asked, one, other):
    """Whether two pairs of strings are keys of different hands, none of them asked."""
    if one not in keys or other not in keys or one[0] == other[0]:
        return False
    return one not in asked and other not in asked


def _check_tree(store, tree, many):
    """Raise InvalidPaper for the first thing that is wrong with a tree, where many keys are asked at its ends."""
    good = good_table(store)
    keys = all_keys(store)
    waiting = [((), (), tree)]
    while waiting:
        path, asked, place = waiting.pop()
        if (place is None) != (len(asked) == many):
            raise InvalidPaper("end", path)
        if place is None:
            continue
        one, other, state, first, second = place
        if not _are_free_keys(keys, asked, one, other):
            raise InvalidPaper("pair", path)
        if not clash_in(good, state, sum_of(store, one), sum_of(store, other)):
            raise InvalidPaper("state", path)
        # The second tree goes in first, so that the first one comes out first.
        waiting.append(((*path, 1), (*asked, other), second))
        waiting.append(((*path, 0), (*asked, one), first))


def lets_asked(store, thing):
    """How many keys any value asks for as an asked paper; InvalidPaper for the first thing that is wrong with it."""
    if not is_pair(thing) or not is_tuple_of(thing[0], _is_text_pair) or not _is_tree(thing[1]):
        raise InvalidPaper("shape", -1)
    asked, tree = thing
    _check_asked(store, asked)
    _check_tree(store, tree, len(asked))
    return len(asked)
