"""A live store once more, by DOC.md's definitions alone: what the package does is compared with it.

It keeps the deeds of each hand as a list. A hand knows of another one how many of these it has heard of.
"""

from itertools import combinations, product

from tests import direct
from tests.direct import all_sums, good, goods, hands_of, keys_of, minus, plus, rest, safe, step, zero

ITEMS = {"do": "hd", "ask": "hd", "tell": "h", "hear": "hn", "take": "hn", "meet": "H", "exchange": "HR", "give": "hhrr",
         "giveup": "hr"}


def is_name(thing):
    return type(thing) is str and 1 <= len(thing) <= 8 and all("a" <= letter <= "z" for letter in thing)


def is_right(thing):
    if type(thing) is not tuple or not thing or any(type(one) is not tuple or not one for one in thing):
        return False
    if any(type(number) is not int for one in thing for number in one) or len({len(one) for one in thing}) > 1:
        return False
    return list(thing) == sorted(set(thing))


def is_hands(thing):
    return type(thing) is tuple and thing != () and all(map(is_name, thing)) and list(thing) == sorted(set(thing))


def is_event(thing):
    """Whether any value is an event by kind."""
    if type(thing) is not tuple or not thing or type(thing[0]) is not str or thing[0] not in ITEMS:
        return False
    word, *values = thing
    if len(values) != len(ITEMS[word]):
        return False
    kinds = {"h": is_name, "d": is_name, "n": lambda one: type(one) is int and one >= 0, "H": is_hands, "r": is_right,
             "R": lambda one: type(one) is tuple and all(map(is_right, one)) and len(one) == len(values[0])}
    return all(kinds[kind](value) for kind, value in zip(ITEMS[word], values))


class Model:
    def __init__(self, store, start, family, most=40):
        self.store, self.start, self.most = store, start, most
        self.hands = hands_of(store)
        self.rights = {hand: set(right) for hand, right in zip(self.hands, family)}
        self.done = {hand: [] for hand in self.hands}
        self.heard = {hand: {other: 0 for other in self.hands} for hand in self.hands}
        self.changes = {hand: 0 for hand in self.hands}
        self.letters = []
        self.events = 0

    def sum_of(self, hand, many=None):
        return plus(zero(self.store), *[step(self.store, (hand, deed)) for deed in self.done[hand][:many]])

    def sums(self):
        return tuple(self.sum_of(hand) for hand in self.hands)

    def family(self):
        return tuple(tuple(sorted(self.rights[hand])) for hand in self.hands)

    def whole(self):
        return plus(self.start, *self.sums())

    def copy_of(self, hand):
        return plus(self.start, *[self.sum_of(other, self.heard[hand][other]) for other in self.hands])

    def behind(self, hand, deed):
        return plus(self.sum_of(hand), step(self.store, (hand, deed)))

    def suffices(self, group, hand, deed):
        if hand not in group:
            return False
        behind = plus(*[self.sum_of(one) for one in group], step(self.store, (hand, deed)))
        if len(group) == len(self.hands):
            return good(self.store, plus(self.start, behind))
        around = rest(all_sums([sorted(self.rights[one]) for one in group]), goods(self.store))
        return all(good(self.store, plus(c, behind)) for c in around)

    def least_groups(self, hand, deed):
        groups = [group for many in range(1, len(self.hands) + 1) for group in combinations(self.hands, many)]
        found = [group for group in groups if self.suffices(group, hand, deed)]
        return tuple(sorted(group for group in found if not any(set(one) < set(group) for one in found)))

    def group_rights(self, group, hand=None, deed=None):
        old = [sorted(self.rights[one]) for one in group]
        target = direct.worth(all_sums(old), goods(self.store))
        if len(group) == len(self.hands):
            target = [minus(state, self.start) for state in goods(self.store)]
        rights = old
        if deed is not None:
            rights = [sorted({self.sum_of(one), self.behind(one, deed)} if one == hand else {self.sum_of(one)})
                      for one in group]
        for at in range(len(rights)):
            rights[at] = rest(all_sums([*rights[:at], (zero(self.store),), *rights[at + 1:]]), target)
        return tuple(rights)

    def may_exchange(self, hands, rights):
        if len(hands) == len(self.hands):
            return safe(self.store, self.start, rights)
        worth = direct.worth(all_sums([sorted(self.rights[hand]) for hand in hands]), goods(self.store))
        return set(all_sums(rights)) <= set(worth)

    def may_give(self, hand, heir, right, gift):
        worth = direct.worth(all_sums([sorted(self.rights[hand]), sorted(self.rights[heir])]), goods(self.store))
        return (set(right) <= self.rights[hand] and self.rights[heir] <= set(gift) and
                set(all_sums((right, gift))) <= set(worth))

    def reasons(self, event):
        """All reasons for which an event by kind is not possible, in order."""
        word = event[0]
        named = {"meet": lambda: event[1], "exchange": lambda: event[1], "give": lambda: event[1:3]}.get(
            word, lambda: event[1:2])()
        if self.events >= self.most:
            yield "full"
        if not set(named) <= set(self.hands):
            yield "hand"
            return
        if word in ("do", "ask") and event[1:] not in keys_of(self.store):
            yield "deed"
            return
        yield from getattr(self, f"reasons_{word}")(*event[1:])

    def reasons_do(self, hand, deed):
        if self.behind(hand, deed) not in self.rights[hand]:
            yield "right"

    def reasons_ask(self, hand, deed):
        if self.behind(hand, deed) in self.rights[hand]:
            yield "unasked"
        if not self.least_groups(hand, deed):
            yield "none"

    def reasons_tell(self, hand):
        yield from ()

    def reasons_meet(self, hands):
        yield from ()

    def reasons_hear(self, hand, n):
        if n >= len(self.letters) or self.letters[n][0] != "told":
            yield "letter"

    def reasons_take(self, hand, n):
        if n >= len(self.letters) or self.letters[n][0] != "gift" or self.letters[n][2] != hand:
            yield "letter"
        elif self.letters[n][4] != self.changes[hand]:
            yield "void"

    def misfit(self, *rights):
        return any(len(one) != len(self.store[0]) for right in rights for one in right)

    def reasons_exchange(self, hands, rights):
        if self.misfit(*rights):
            yield "rights"
            return
        if any(self.sum_of(hand) not in right for hand, right in zip(hands, rights)):
            yield "sum"
        if not self.may_exchange(hands, rights):
            yield "harm"

    def reasons_give(self, hand, heir, right, gift):
        if self.misfit(right, gift):
            yield "rights"
        if heir == hand:
            yield "heir"
        if self.sum_of(hand) not in right:
            yield "sum"
        # What a hand may give itself is not told.
        if heir != hand and not self.misfit(right, gift) and not self.may_give(hand, heir, right, gift):
            yield "harm"

    def reasons_giveup(self, hand, right):
        if self.misfit(right):
            yield "rights"
        if self.sum_of(hand) not in right:
            yield "sum"
        if not set(right) <= self.rights[hand]:
            yield "harm"

    def reason(self, event):
        """The first reason for which any value is not a possible event, or None."""
        return next(self.reasons(event), None) if is_event(event) else "shape"

    def go(self, event):
        """Do a possible event, and return the answer."""
        self.events += 1
        return getattr(self, f"do_{event[0]}")(*event[1:])

    def gather(self, hands, rights):
        for other in self.hands:
            most = max(self.heard[hand][other] for hand in hands)
            for hand in hands:
                self.heard[hand][other] = most
        for hand, right in zip(hands, rights):
            self.rights[hand] = set(right)
            self.changes[hand] += 1

    def do_do(self, hand, deed):
        self.done[hand].append(deed)
        self.heard[hand][hand] += 1
        return self.sum_of(hand)

    def do_ask(self, hand, deed):
        group = self.least_groups(hand, deed)[0]
        self.gather(group, self.group_rights(group, hand, deed))
        self.do_do(hand, deed)
        return group

    def write(self, letter):
        self.letters.append(letter)
        return len(self.letters) - 1

    def do_tell(self, hand):
        rows = tuple((self.heard[hand][other], self.sum_of(other, self.heard[hand][other])) for other in self.hands)
        return self.write(("told", hand, rows))

    def do_hear(self, hand, n):
        for other, (many, _) in zip(self.hands, self.letters[n][2]):
            self.heard[hand][other] = max(many, self.heard[hand][other])
        return self.copy_of(hand)

    def do_take(self, hand, n):
        self.rights[hand] = set(self.letters[n][3])
        self.changes[hand] += 1
        return ()

    def do_meet(self, hands):
        rights = self.group_rights(hands)
        self.gather(hands, rights)
        return rights

    def do_exchange(self, hands, rights):
        self.gather(hands, rights)
        return ()

    def do_give(self, hand, heir, right, gift):
        self.rights[hand] = set(right)
        self.changes[hand] += 1
        return self.write(("gift", hand, heir, gift, self.changes[heir]))

    def do_giveup(self, hand, right):
        self.rights[hand] = set(right)
        self.changes[hand] += 1
        return ()

    def table(self):
        rows = []
        for hand in self.hands:
            told = "whole" if self.copy_of(hand) == self.whole() else "-"
            numbers = [len(self.rights[hand]), len(self.done[hand]), self.changes[hand]]
            rows.append(" ".join([hand.ljust(8), *[str(number).rjust(3) for number in numbers], told]))
        return rows


def some_right(chance, model, hand):
    """A right, mostly within the present one and with the present sum."""
    pool = list(product(range(-2, 3), repeat=len(model.store[0])))
    kept = [one for one in sorted(model.rights[hand]) if chance.random() < 0.8]
    more = chance.sample(pool, 1) if chance.random() < 0.15 else []
    own = [model.sum_of(hand)] if chance.random() < 0.95 else []
    return tuple(sorted({*kept, *more, *own})) or ((0,) * len(model.store[0]),)


def some_exchange(chance, model):
    hands = tuple(sorted(chance.sample(model.hands, chance.randint(1, len(model.hands)))))
    if chance.random() < 0.4:
        return ("exchange", hands, tuple(some_right(chance, model, hand) for hand in hands))
    rights = list(model.group_rights(hands))
    at = chance.randrange(len(hands))
    rights[at] = some_right(chance, model, hands[at])
    return ("exchange", hands, tuple(rights))


def some_gift(chance, model):
    hand, heir = chance.choice(model.hands), chance.choice(model.hands)
    right = some_right(chance, model, hand)
    gift = set(model.rights[heir])
    if heir != hand and set(right) <= model.rights[hand]:
        worth = direct.worth(all_sums([sorted(model.rights[hand]), sorted(model.rights[heir])]), goods(model.store))
        gift |= {one for one in rest(right, worth) if chance.random() < 0.8}
    if chance.random() < 0.1:
        gift = set(some_right(chance, model, heir))
    return ("give", hand, heir, right, tuple(sorted(gift)))


def some_event(chance, model):
    """An event by kind, mostly a possible one."""
    hand = chance.choice(model.hands) if chance.random() < 0.98 else "zoe"
    word = chance.choice(["do"] * 4 + ["ask"] * 2 + ["tell", "hear", "take", "take", "meet", "exchange", "give", "give", "giveup"])
    if word in ("do", "ask"):
        names = [deed for own, deed in keys_of(model.store) if own == hand]
        return (word, hand, chance.choice([*names, *names, *names, "fly"]))
    if word in ("hear", "take"):
        kind = {"hear": "told", "take": "gift"}[word]
        fit = [n for n, letter in enumerate(model.letters) if letter[0] == kind]
        n = chance.choice(fit[-3:]) if fit and chance.random() < 0.9 else chance.randint(0, len(model.letters) + 1)
        if word == "take" and n in fit and chance.random() < 0.8:
            hand = model.letters[n][2]
        return (word, hand, n)
    if word == "meet":
        return (word, tuple(sorted(chance.sample([*model.hands], chance.randint(1, len(model.hands))))))
    if word == "exchange":
        return some_exchange(chance, model)
    if word == "give":
        return some_gift(chance, model)
    if word == "giveup" and hand in model.rights:
        return (word, hand, some_right(chance, model, hand))
    return ("tell", hand)


def wild_event(chance, model):
    """An event by kind whose parts are drawn each by itself."""
    word = chance.choice(list(ITEMS))
    names = [*model.hands, *model.hands, "zoe"]
    deeds = [*[deed for _, deed in keys_of(model.store)], "fly"]
    hands = tuple(sorted(set(chance.choices(names, k=chance.randint(1, 3)))))

    def right():
        many = len(model.store[0]) + (chance.random() < 0.1)
        pool = list(product(range(-1, 2), repeat=many))
        present = [one for own in model.family() for one in own if len(one) == many]
        return tuple(sorted({*chance.choices(pool, k=2), *chance.choices(present or pool, k=2)}))

    drawn = {"h": lambda: chance.choice(names), "d": lambda: chance.choice(deeds), "H": lambda: hands, "r": right,
             "n": lambda: chance.randint(0, len(model.letters)), "R": lambda: tuple(right() for _ in hands)}
    return (word, *[drawn[kind]() for kind in ITEMS[word]])
