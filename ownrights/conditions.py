"""Expressions, that is numbers and conditions: their form, their parts, and which of them are wrong."""

from ownrights.errors import UnfitRule
from ownrights.kinds import is_integer, is_name

COUNT_WORDS = ("item", "+", "-", "*")
RULE_WORDS = ("=", "<", "and", "or", "not")
JOINING_WORDS = ("and", "or", "not")
# How many elements the tuple of each word has, the word itself included.
LENGTHS = {"item": 2, "+": 3, "-": 3, "*": 3, "=": 3, "<": 3, "and": 3, "or": 3, "not": 2}


def inner_words(word):
    """The words of the kind that stands in a part with this word."""
    return RULE_WORDS if word in JOINING_WORDS else COUNT_WORDS


def _fits(part, words, names):
    """Whether any value is a part of the kind with these words, whatever stands in its own parts."""
    if is_integer(part):
        return words == COUNT_WORDS
    if not isinstance(part, tuple) or not part or part[0] not in words:
        return False
    if len(part) != LENGTHS[part[0]]:
        return False
    return part[0] != "item" or (is_name(part[1]) and (names is None or part[1] in names))


def _inner_parts(path, part):
    """The parts that stand right in a part at this path, each behind its own path, in order."""
    if is_integer(part) or part[0] == "item":
        return []
    return [((*path, at), part[at]) for at in range(1, len(part))]


def first_wrong(thing, words, names):
    """The path of the first wrong part of any value that should be of the kind with these words, or None.

    If names is None, each name may stand behind "item".
    """
    waiting = [((), thing, words)]
    while waiting:
        path, part, due = waiting.pop()
        if not _fits(part, due, names):
            return path
        # The last part goes in first, so that the first one comes out first.
        for inner_path, inner in _inner_parts(path, part)[::-1]:
            waiting.append((inner_path, inner, inner_words(part[0])))
    return None


def is_count(thing):
    """Whether any value is a number by form, with any names."""
    return first_wrong(thing, COUNT_WORDS, None) is None


def is_condition(thing):
    """Whether any value is a condition by form, with any names."""
    return first_wrong(thing, RULE_WORDS, None) is None


def parts_of(expression):
    """All parts of a number or a condition as pairs (path, part), a part before the parts in it."""
    found = []
    waiting = [((), expression)]
    while waiting:
        path, part = waiting.pop()
        found.append((path, part))
        waiting.extend(_inner_parts(path, part)[::-1])
    return tuple(found)


def item_names(items):
    """The names of the items, in order."""
    return [name for name, low, high in items]


def lets_rule(items, thing):
    """How many parts any value has as a condition over these items; UnfitRule for its first wrong part."""
    wrong = first_wrong(thing, RULE_WORDS, item_names(items))
    if wrong is not None:
        raise UnfitRule(wrong)
    return len(parts_of(thing))
