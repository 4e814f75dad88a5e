"""Sums, added element by element."""


def added(one, *others):
    """The sum of sums of one length."""
    return tuple([sum(column) for column in zip(one, *others)])


def subtracted(one, other):
    """The sum that, added to other, gives one."""
    return tuple([x - y for x, y in zip(one, other)])


def zero_sum(many):
    """The sum of many zeros."""
    return (0,) * many
