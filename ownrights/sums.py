"""Sets of sums as objects."""

from ownrights.adding import added
from ownrights.errors import InvalidSums
from ownrights.kinds import is_integers
from ownrights.rests import all_added, as_set, rest_of_sums


def _is_long_sum(thing):
    """Whether any value is a nonempty tuple of integers."""
    return is_integers(thing) and thing != ()


def _are_long_sums(thing):
    """Whether any value is a tuple of nonempty tuples of integers."""
    return isinstance(thing, tuple) and all([_is_long_sum(one) for one in thing])


class Sums:
    """A set of sums of one length, that never changes."""

    def __init__(self, sums):
        if not _are_long_sums(sums):
            raise InvalidSums("shape", -1)
        for at, one in enumerate(sums):
            if len(one) != len(sums[0]):
                raise InvalidSums("length", at)
        self._form = as_set(sums)

    @property
    def form(self):
        """The set of the sums."""
        return self._form

    def __len__(self):
        return len(self._form)

    def __contains__(self, x):
        # The kind is looked at first, because True equals 1 for Python.
        return is_integers(x) and x in self._form

    def __eq__(self, other):
        return isinstance(other, Sums) and self._form == other._form

    def __add__(self, other):
        self._check_length(other)
        return Sums(all_added(self._form, other._form))

    def __or__(self, other):
        self._check_length(other)
        return Sums(self._form + other._form)

    def __and__(self, other):
        self._check_length(other)
        held = set(other._form)
        return Sums(tuple([one for one in self._form if one in held]))

    def __sub__(self, other):
        self._check_length(other)
        held = set(other._form)
        return Sums(tuple([one for one in self._form if one not in held]))

    def within(self, other):
        """Whether the other one has all sums of this one."""
        self._check_length(other)
        held = set(other._form)
        return all([one in held for one in self._form])

    def shifted(self, one):
        """The sums of this one, each with the sum one, which may be any value."""
        if not _is_long_sum(one) or any([len(own) != len(one) for own in self._form]):
            raise InvalidSums("sum", -1)
        return Sums(all_added(self._form, (one,)))

    def rest_in(self, target):
        """The rest of this one in a target."""
        if not self._form:
            raise InvalidSums("empty", -1)
        self._check_length(target)
        return Sums(rest_of_sums(self._form, target._form))

    def worth_in(self, target):
        """The worth of this one in a target, or None if the rest is empty."""
        rest = self.rest_in(target)
        # What leads into the target with each sum of the rest is the rest of the rest.
        return rest.rest_in(target) if len(rest) > 0 else None

    def _check_length(self, other):
        """Raise InvalidSums if both have sums, and these have different lengths."""
        if self._form and other._form and len(self._form[0]) != len(other._form[0]):
            raise InvalidSums("length", -1)
