"""Of what kind any value is: integers, numbers, names, sums, sets of sums, rights, tuples."""

LETTERS = "abcdefghijklmnopqrstuvwxyz"
LONGEST_NAME = 8


def is_integer(thing):
    """Whether any value is an integer; a bool is none."""
    return isinstance(thing, int) and not isinstance(thing, bool)


def is_number(thing):
    """Whether any value is an integer that is at least 0."""
    return is_integer(thing) and thing >= 0


def is_name(thing):
    """Whether any value is a string of one to eight lowercase letters."""
    if not isinstance(thing, str) or not 1 <= len(thing) <= LONGEST_NAME:
        return False
    return all([letter in LETTERS for letter in thing])


def is_integers(thing):
    """Whether any value is a tuple of integers, however many."""
    return isinstance(thing, tuple) and all([is_integer(one) for one in thing])


def is_sum(thing, many):
    """Whether any value is a tuple of many integers."""
    return is_tuple(thing, many) and is_integers(thing)


def is_ascending(things):
    """Whether each of some comparable things is greater than the one before."""
    return all([things[at - 1] < things[at] for at in range(1, len(things))])


def is_sums(thing, many):
    """Whether any value is a set of sums of many integers: ascending, without duplicates, possibly empty."""
    return isinstance(thing, tuple) and all([is_sum(one, many) for one in thing]) and is_ascending(thing)


def is_right(thing, many):
    """Whether any value is a nonempty set of sums of many integers."""
    return is_sums(thing, many) and thing != ()


def is_tuple(thing, many):
    """Whether any value is a tuple of many elements, whatever they are."""
    return isinstance(thing, tuple) and len(thing) == many


def is_pair(thing):
    """Whether any value is a tuple of two elements."""
    return is_tuple(thing, 2)


def is_tuple_of(thing, is_one):
    """Whether any value is a tuple, each element of which passes is_one."""
    return isinstance(thing, tuple) and all([is_one(one) for one in thing])


def is_integer_rows(thing):
    """Whether any value is a tuple of tuples of integers, however many."""
    return is_tuple_of(thing, is_integers)


def is_long_right(thing):
    """Whether any value is a nonempty set of nonempty tuples of integers of equal length."""
    return is_integer_rows(thing) and thing != () and thing[0] != () and is_sums(thing, len(thing[0]))


def is_names(thing):
    """Whether any value is a nonempty set of names."""
    return is_tuple_of(thing, is_name) and thing != () and is_ascending(thing)
