"""How many deeds all hands can surely do beside each other."""

from ownrights.balls import ball
from ownrights.deeds import hand_names
from ownrights.goods import good_table
from ownrights.rests import all_added


def _are_good(good, states):
    """Whether all of some states are among the good ones, which are the keys of a dict."""
    return all([state in good for state in states])


def _lone_balls(store, good, start, hand, most):
    """The balls of a hand for 0, 1, 2, .. up to most, as long as they are safe while the others do nothing."""
    balls = []
    for number in range(most + 1):
        sums = ball(store, hand, number)
        if not _are_good(good, all_added((start,), sums)):
            break
        balls.append(sums)
    return balls


def sure_tuples(store, start, most):
    """The set of all sure tuples of numbers up to most, one number for each hand."""
    good = good_table(store)
    rows = [((), (start,))]
    for hand in hand_names(store):
        balls = _lone_balls(store, good, start, hand, most)
        further = [((*numbers, number), all_added(states, sums))
                   for numbers, states in rows for number, sums in enumerate(balls)]
        # A hand may do nothing, so what is not safe for the first hands is not safe for all.
        rows = [(numbers, states) for numbers, states in further if _are_good(good, states)]
    return tuple([numbers for numbers, states in rows])


def _reaches(one, other):
    """Whether a tuple of numbers is at least as great as another one in every place."""
    return all([x >= y for x, y in zip(one, other)])


def greatest_tuples(store, start, most):
    """The set of those sure tuples beside which no other one is at least as great in every place."""
    sure = sure_tuples(store, start, most)
    return tuple([one for one in sure if not any([other != one and _reaches(other, one) for other in sure])])


def fairest(store, start, most):
    """The sure tuple whose least numbers are as great as can be, and the family of its balls; None if there is none."""
    sure = sure_tuples(store, start, most)
    if not sure:
        return None
    _, numbers = max([(sorted(one), one) for one in sure])
    return (numbers, tuple([ball(store, hand, number) for hand, number in zip(hand_names(store), numbers)]))
