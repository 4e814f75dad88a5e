"""Whether any value is a store."""

from ownrights.conditions import RULE_WORDS, first_wrong, item_names
from ownrights.errors import InvalidPaper
from ownrights.kinds import is_integer, is_integers, is_name, is_pair, is_tuple, is_tuple_of


def _is_item(thing):
    """Whether any value has the shape of an item."""
    return is_tuple(thing, 3) and is_name(thing[0]) and is_integer(thing[1]) and is_integer(thing[2])


def _is_deed(thing):
    """Whether any value has the shape of a deed."""
    return is_pair(thing) and is_name(thing[0]) and is_integers(thing[1])


def _is_hand(thing):
    """Whether any value has the shape of a hand."""
    return is_pair(thing) and is_name(thing[0]) and is_tuple_of(thing[1], _is_deed)


def _has_shape(thing):
    """Whether any value has the shape of a store; the rules may be any values."""
    if not is_tuple(thing, 3):
        return False
    return is_tuple_of(thing[0], _is_item) and isinstance(thing[1], tuple) and is_tuple_of(thing[2], _is_hand)


def _ascends(rows, at):
    """Whether the name of a row is greater than the one before; the first row has none before it."""
    return at == 0 or rows[at - 1][0] < rows[at][0]


def _check_items(items):
    """Raise InvalidPaper for the first thing that is wrong with the items."""
    if not items:
        raise InvalidPaper("items", -1)
    for at, (name, low, high) in enumerate(items):
        if not _ascends(items, at) or low > high:
            raise InvalidPaper("item", at)


def _check_rules(rules, names):
    """Raise InvalidPaper for the first rule that is no condition with these names."""
    for at, rule in enumerate(rules):
        if first_wrong(rule, RULE_WORDS, names) is not None:
            raise InvalidPaper("rule", at)


def _check_hands(hands, many):
    """Raise InvalidPaper for the first thing that is wrong with the hands or their deeds."""
    if not hands:
        raise InvalidPaper("hands", -1)
    for at, (hand, deeds) in enumerate(hands):
        if not _ascends(hands, at):
            raise InvalidPaper("hand", at)
        for place, (deed, one) in enumerate(deeds):
            if not _ascends(deeds, place) or len(one) != many:
                raise InvalidPaper("deed", (at, place))


def lets_store(thing):
    """How many hands any value has as a store; InvalidPaper for the first thing that is wrong with it."""
    if not _has_shape(thing):
        raise InvalidPaper("shape", -1)
    items, rules, hands = thing
    _check_items(items)
    _check_rules(rules, item_names(items))
    _check_hands(hands, len(items))
    return len(hands)
