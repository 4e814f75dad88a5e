"""Expressions, sums, sets of sums and stores, written as texts."""

from ownrights.conditions import parts_of
from ownrights.kinds import is_integer


def _head_text(part):
    """What is written of a part before the parts in it."""
    if is_integer(part):
        return str(part)
    return f"item {part[1]}" if part[0] == "item" else part[0]


def expression_text(expression):
    """The words of a number or a condition."""
    # Each part stands before the parts in it, in the text as in parts_of.
    return " ".join([_head_text(part) for path, part in parts_of(expression)])


def sum_text(one):
    """The word of a sum."""
    return ",".join([str(number) for number in one])


def sums_text(sums):
    """The word of a set of sums."""
    return ";".join([sum_text(one) for one in sums]) if sums else "-"


def store_text(store):
    """The lines of a store, with newlines between."""
    items, rules, hands = store
    lines = [f"item {name} {low} {high}" for name, low, high in items]
    lines.extend([f"rule {expression_text(rule)}" for rule in rules])
    for hand, deeds in hands:
        lines.append(f"hand {hand}")
        lines.extend([f"deed {deed} {sum_text(one)}" for deed, one in deeds])
    return "\n".join(lines)
