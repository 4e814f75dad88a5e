"""A direct look at small stores: everything by DOC.md's definitions alone, without the package."""

import random
from functools import lru_cache
from itertools import combinations, product

from tests.helpers import SHOP, TILL

X, Y = ("item", "x"), ("item", "y")
# No hand harms another one here: what one does is nobody else's item, and a deed that changes nothing.
QUIET = ((("x", 0, 2), ("y", 0, 1)), (), (("ann", (("down", (-1, 0)), ("up", (1, 0)), ("wait", (0, 0)))),
                                          ("bob", (("down", (0, -1)), ("up", (0, 1))))))
# Two items, rules of all words.
RULED = (
    (("x", 0, 3), ("y", -1, 2)),
    (("<", ("+", X, Y), 4), ("or", ("not", ("=", X, Y)), ("and", ("<", 0, X), ("=", ("*", X, 2), ("-", Y, -2))))),
    (("ann", (("a", (1, 0)), ("b", (-1, 1)), ("c", (0, 0)))), ("bob", (("a", (0, -1)), ("b", (2, 0)))), ("eve", ())),
)
# Three hands with three deeds each, thirty-six good states.
GRID = (
    (("x", 0, 5), ("y", 0, 5)), (),
    (("ann", (("a", (1, 0)), ("b", (0, 1)), ("c", (-1, -1)))), ("bob", (("a", (-1, 0)), ("b", (0, -1)), ("c", (2, 1)))),
     ("eve", (("a", (0, 2)), ("b", (-3, 0)), ("c", (1, -1))))),
)
# A state that is good lies apart from the others.
GAPS = ((("x", 0, 9),), (("not", ("=", X, 4)), ("not", ("=", X, 7))),
        (("ann", (("a", (1,)), ("b", (2,)))), ("bob", (("a", (-1,)), ("b", (3,))))))
ALONE = ((("x", 0, 3),), (("not", ("=", X, 1)),), (("ann", (("a", (1,)), ("b", (-1,)), ("c", (2,)))),))
IDLE = ((("x", 0, 3),), (), (("ann", ()), ("bob", ())))
NONE_GOOD = ((("x", 0, 3),), (("<", X, 0),), (("ann", (("a", (1,)),)), ("bob", (("a", (-1,)),))))
ONE_GOOD = ((("x", 2, 2),), (), (("ann", (("a", (1,)), ("b", (0,)))), ("bob", (("a", (-1,)),))))
THREE = ((("x", 0, 4),), (), (("ann", (("a", (1,)),)), ("bob", (("a", (-1,)), ("b", (1,)))), ("eve", (("a", (2,)),))))
STORES = [TILL, QUIET, RULED, GAPS, ALONE, IDLE, NONE_GOOD, ONE_GOOD, THREE]
ALL_STORES = [*STORES, GRID, SHOP]


def plus(*sums):
    return tuple(sum(column) for column in zip(*sums))


def minus(one, other):
    return tuple(x - y for x, y in zip(one, other))


def zero(store):
    return (0,) * len(store[0])


def value(part, state):
    if isinstance(part, int):
        return part
    word = part[0]
    if word == "item":
        return state[part[1]]
    values = [value(inner, state) for inner in part[1:]]
    if word == "not":
        return not values[0]
    return {"+": lambda a, b: a + b, "-": lambda a, b: a - b, "*": lambda a, b: a * b, "=": lambda a, b: a == b,
            "<": lambda a, b: a < b, "and": lambda a, b: a and b, "or": lambda a, b: a or b}[word](*values)


def good(store, state):
    names = {name: number for (name, _, _), number in zip(store[0], state)}
    ranges = all(low <= number <= high for (_, low, high), number in zip(store[0], state))
    return ranges and all(value(rule, names) for rule in store[1])


@lru_cache
def good_set(store):
    return frozenset(goods(store))


@lru_cache
def _goods(store):
    return [state for state in product(*[range(low, high + 1) for _, low, high in store[0]]) if good(store, state)]


def goods(store):
    return list(_goods(store))


def box(store, beyond):
    """All states with each item at most so far beyond its range."""
    return list(product(*[range(low - beyond, high + beyond + 1) for _, low, high in store[0]]))


def keys_of(store):
    return [(hand, deed) for hand, deeds in store[2] for deed, _ in deeds]


def step(store, key):
    return dict(dict(store[2])[key[0]])[key[1]]


def hands_of(store):
    return [hand for hand, _ in store[2]]


def subsets(things):
    return [some for many in range(len(things) + 1) for some in combinations(things, many)]


def safe(store, start, family):
    return all(plus(start, *choice) in good_set(store) for choice in product(*family))


def rest(sums, target):
    """The rest of some sums, at least one, in a target."""
    held = set(target)
    found = {minus(one, sums[0]) for one in target}
    return tuple(sorted(c for c in found if all(plus(c, one) in held for one in sums)))


def worth(sums, target):
    around = rest(sums, target)
    return rest(around, target) if around else None


def all_sums(rights):
    return sorted({plus(*choice) for choice in product(*rights)})


def some_families(store, chance, many, widest=3, far=2):
    """Some families, drawn by chance from the sums up to far in each item."""
    pool = list(product(range(-far, far + 1), repeat=len(store[0])))
    return [tuple(tuple(sorted(chance.sample(pool, chance.randint(1, widest)))) for _ in store[2]) for _ in range(many)]


def starts_of(store):
    """Good states and others, as starts."""
    return sorted({*goods(store)[::2], *box(store, 1)[::4]})


def safe_family(store, start, chance, tries=4):
    """A safe family at a good start, grown by chance from the sums of zeros."""
    rights = [(zero(store),) for _ in store[2]]
    states = goods(store)
    for _ in range(tries):
        at = chance.randrange(len(rights))
        one = minus(chance.choice(states), start)
        wider = [*rights[:at], tuple(sorted({*rights[at], one})), *rights[at + 1:]]
        if safe(store, start, wider):
            rights = wider
    return tuple(rights)


def grown_family(store, start, family):
    """The safe family with each right replaced by its rest, in order."""
    rights = list(family)
    target = [minus(state, start) for state in goods(store)]
    for at in range(len(rights)):
        rights[at] = rest(all_sums([*rights[:at], (zero(store),), *rights[at + 1:]]), target)
    return tuple(rights)


def safe_families(store, chance, many, tries=4):
    """Pairs of a start and a family that is safe there, as many as asked for of a store with good states."""
    states = goods(store)
    starts = [chance.choice(states) for _ in range(many)] if states else []
    return [(start, safe_family(store, start, chance, tries)) for start in starts]


def family_cases(seed, many):
    """Stores with starts and families of all sorts: not safe, safe, and the greatest."""
    chance = random.Random(seed)
    for store in [*STORES, GRID]:
        for family in some_families(store, chance, many, far=1):
            for start in starts_of(store)[::3]:
                yield store, start, family
        for start, family in safe_families(store, chance, many):
            yield store, start, family
            yield store, start, grown_family(store, start, family)


# Values that are no right of a store with one item, nor of one with two.
NO_RIGHTS = [
    (), ((),), ((0,), ()), ((0, 0, 0),), ((1,), (0,)), ((1, 0), (0, 0)), ((0,), (0,)), ((0, 0), (0, 0)), ((True,),),
    ((False,),), ((0, True),), ((False,), (1,)), [(0,)], [(0, 0)], ([0],), ([0, 0],), (0,), (0, 0), ((None,),), (("0",),),
    ((0,), (0, 0)), ((0,), 0), ((0,), None), (((0,),),), {(0,): 1},
]
